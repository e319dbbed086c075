/-
  What the functions that the law reaches do, one by one: contracts. Conditions: those that each of them prints.
-/
import Derived.Test.YteghpophcnehgaaMk
import Derived.WalkKit
import Derived.Deep.Quiet
import Derived.Deep.RegionLaw
namespace Go.Proofs.Yteghpophcnehgaa
open Go.RowKit ExprA SndA
namespace SndA
structure RegsOk (L:List (Int × Int)) (i:Nat) (R:List Int):Prop where
 up:Rise R
 mem:∀ x ∈ R,((2:Int),x) ∈ L.take i
 all:∀ x,((2:Int),x) ∈ L.take i→x ∈ R
 len:R.length≤i
theorem take_one {α:Type} {L:List α} {i:Nat} (h:i < L.length) (z:α):L.take (i + 1)=L.take i ++ [L.getD i z]:=by
 rw [List.take_add_one,List.getD_eq_getElem?_getD,List.getElem?_eq_getElem h]; rfl
theorem regs_zero (L:List (Int × Int)):RegsOk L 0 []:=⟨List.Pairwise.nil,(fun x hx=>by cases hx),(fun x hx=>by simp at hx),Nat.le_refl _⟩
theorem regs_skip {L:List (Int × Int)} {i:Nat} {R:List Int} {k v:Int} (hi:i < L.length) (h:RegsOk L i R) (hp:L.getD i (0,0)=(k,v)) (hk:k ≠ 2):RegsOk L (i + 1) R:=by
 have e:=take_one hi (0,0)
 rw [hp] at e
 refine ⟨h.up,fun x hx=>by rw [e]; exact List.mem_append_left _ (h.mem x hx),fun x hx=>?_,Nat.le_succ_of_le h.len⟩
 rw [e] at hx
 rcases List.mem_append.1 hx with q | q
 ·exact h.all x q
 ·simp only [List.mem_singleton,Prod.mk.injEq] at q
  exact absurd q.1.symm hk
theorem regs_put {L:List (Int × Int)} {i:Nat} {R R':List Int} {v:Int} (hi:i < L.length) (h:RegsOk L i R) (hp:L.getD i (0,0)=(2,v)) (g:PutOk R v R'):RegsOk L (i + 1) R':=by
 have e:=take_one hi (0,0)
 rw [hp] at e
 refine ⟨g.up h.up,fun x hx=>?_,fun x hx=>?_,by have:=g.len; have:=h.len; omega⟩
 ·rw [e]
  rcases g.mem x hx with q | q
  ·exact List.mem_append_right _ (by simp [q])
  ·exact List.mem_append_left _ (h.mem x q)
 ·rw [e] at hx
  rcases List.mem_append.1 hx with q | q
  ·exact g.all.2 x (h.all x q)
  ·simp only [List.mem_singleton,Prod.mk.injEq] at q
   rw [q.2]; exact g.all.1
theorem take_news {w:World} {g k:Nat} {L:List Int} (h:∀ i,i < L.length→w.cell? ⟨g,i,none⟩=some (.int .i64 (L.getD i 0))) (hk:k≤L.length):∀ W,Below w.heap.size w W→∀ j u,(nints (L.take k))[j]?=some u→W.cell? ((⟨g,0,none⟩:Addr).add j)=some u:=fun W hb=>news_cells (fun i hi=>by
 have hi2:i < k:=by simp at hi; omega
 have:=cell_next (h i (by omega)) hb
 rw [Nat.zero_add,this]; simp [List.getD_eq_getElem?_getD,hi2])
theorem drop_news {w:World} {g k:Nat} {L:List Int} (h:∀ i,i < L.length→w.cell? ⟨g,i,none⟩=some (.int .i64 (L.getD i 0))):∀ W,Below w.heap.size w W→∀ j u,(nints (L.drop k))[j]?=some u→W.cell? ((⟨g,k,none⟩:Addr).add j)=some u:=fun W hb=>news_cells (fun i hi=>by
 have hi2:k + i < L.length:=by simp at hi; omega
 have:=cell_next (h (k + i) hi2) hb
 rw [this]; simp [List.getD_eq_getElem?_getD])
end SndA
set_option maxRecDepth 20000 in
set_option maxHeartbeats 8000000 in
theorem regs_any (a:Option Addr) (L:List (Int × Int)) (cL:Nat) (w:World) (h:TIn w a L) (hL:L.length≤100) :
  Calls Try.prog 74 #[.slice a L.length cL] w fun e w'=>GivesL w' e (RegsOk L L.length)∧Below w.heap.size w w':=by
 have HI:=Lib.hid h
 have hLi:(L.length:Int)≤100:=by omega
 clear h
 go_enter Try.func74,Try.ntmps74
 go_wp2_with fail
 go_loopw [3,4] (fun d x wr=>∃ (q:Nat) (R:List Int),q≤L.length∧x=.int .i64 (q:Int)∧Hid (LV wr d R)∧Hid (RegsOk L q R)∧Hid (Below w.heap.size w wr)) (fun _ x _=>L.length - (intOf x).toNat)
 case atStart=>exact ⟨0,[],Nat.zero_le _,rfl,Lib.hid (LV.nil _),Lib.hid (regs_zero L),Lib.hid (Below.refl _ _)⟩
 case round=>
  obtain ⟨q,R,hq,rfl,HL,HR,HB⟩:=hrel
  have hqi:(q:Int)≤100:=by omega
  have hRq:=HR.out.len
  have hRi:(R.length:Int)≤100:=by omega
  obtain ⟨wo,hwo⟩:∃ x,x=wr:=⟨_,rfl⟩
  subst hwo
  by_cases hlt:q < L.length
  ·have d1:decide ((q:Int) < (L.length:Int))=true:=by rw [decide_eq_true_iff]; omega
   have i1:(q:Int) < (L.length:Int):=by omega
   rcases HI.out.next HB.out with h0 | ⟨b,o,rfl,hbl,hcc⟩
   ·rw [h0] at hlt; simp at hlt
   obtain ⟨c0,c1⟩:=hcc q hlt
   clear hcc
   obtain ⟨pk,pv,hpp⟩:∃ pk pv,L.getD q (0,0)=(pk,pv):=⟨_,_,rfl⟩
   rw [hpp] at c0 c1
   dsimp only at c0 c1
   by_cases h2:pk=2
   ·subst h2
    have k2:((2:Int) != 2)=false:=by decide
    have HL2:=HL
    rcases HL.out.form with ⟨rfl,rfl⟩ | ⟨g,cc,rfl,hg,hcp,hcm,hcell⟩
    ·go_wp2_with fail
     go_loopw [5] (fun y wq=>y=.int .i64 0∧Hid (Below wo.heap.size wo wq)) (fun _ _=>0)
     case atStart=>exact ⟨rfl,Lib.hid (Below.refl _ _)⟩
     case round=>
      obtain ⟨rfl,HBQ⟩:=hrel
      obtain ⟨wq,hwq⟩:∃ x,x=wr:=⟨_,rfl⟩
      subst hwq
      have HP:=Lib.hid (put_in (L:=[]) (v:=pv) (k:=0) (fun j hj=>absurd hj (Nat.not_lt_zero _)) (Nat.le_refl _) (fun hj=>absurd hj (Nat.not_lt_zero _)))
      go_wp2_with fail
      go_quiet (fail)
      go_wp2_with fail
      go_quiet (fail)
      go_wp2_with fail
      generalize hW:World.drewN (World.drewN wq _) _=W
      have HBW:Hid (Below wo.heap.size wo W):=Lib.hid (by rw [← hW]; exact below_next (below_next HBQ.out (bel_drewN _ _)) (bel_drewN _ _))
      clear hW
      have e1:=cell_next c1 HBW.out
      refine regsreg_l W (.slice none 0 0) (.slice none 0 0) (.slice none 0 0) none none b o L.length cL 0 0 0 q pv [] (Nat.le_refl _) (Nat.zero_le _) hlt (by omega) e1 rfl rfl (.inl rfl) (.inl rfl) _ _ _ _ _ _ _ _ _ _ _ _ _ _ _ _ _ _ _ _ _ _ _ _ _ _ _ _ _ _ _ _ _ _ _ _ _ _ _ _ _ _ _ _ _ _ _ _ _ _ _ _ _ _ _ _ _ _ _ _ _ _ _ _  _ (fun _ _ _ _ _ h=>h) ?_ ?_ ?_
      ·intro a w' e1 e2
       go_simp
       try (intro q; omega)
      ·intro a w' e1 e2
       go_simp
       try (intro q; omega)
      ·intro y52 y53 y54 y55 y56 y57 y58 y59 y60 y61 y62 y63 y64 y65 y66 v3 W' hv hb
       have HV:=Lib.hid hv
       have HB3:=Lib.hid (below_next HBW.out hb)
       clear hv hb
       go_wp2_with fail
       go_roundw
       case rel=>exact ⟨q + 1,_,hlt,by go_num,HV,Lib.hid (regs_put hlt HR.out hpp HP.out),Lib.hid (below_next HB.out HB3.out)⟩
       case measure=>simp [intOf]; omega
    ·have HCE:=Lib.hid hcell
     clear hcell
     have hcc1:(R.length:Int)≤(cc:Int):=by omega
     go_wp2_with fail
     go_loopw [5] (fun y wq=>∃ k:Nat,k≤R.length∧y=.int .i64 (k:Int)∧Hid (Below wo.heap.size wo wq)∧Hid (∀ j,j < k→R.getD j 0 < pv)) (fun y _=>R.length - (intOf y).toNat)
     case atStart=>exact ⟨0,Nat.zero_le _,rfl,Lib.hid (Below.refl _ _),Lib.hid (fun j hj=>absurd hj (Nat.not_lt_zero _))⟩
     case round=>
      obtain ⟨k,hk,rfl,HBQ,HJ⟩:=hrel
      obtain ⟨wq,hwq⟩:∃ x,x=wr:=⟨_,rfl⟩
      subst hwq
      have hki:(k:Int)≤100:=by omega
      have z1:=cell_next c1 HBQ.out
      by_cases hkl:k < R.length
      ·have d3:decide ((k:Int) < (R.length:Int))=true:=by rw [decide_eq_true_iff]; omega
       have i3:(k:Int) < (R.length:Int):=by omega
       have z0:=cell_next (HCE.out k hkl) HBQ.out
       have hkc:(k:Int) < (cc:Int):=by omega
       obtain ⟨x,hxe⟩:∃ x,R.getD k 0=x:=⟨_,rfl⟩
       rw [hxe] at z0
       by_cases hx:x < pv
       ·have d4:decide (x < pv)=true:=by simp [hx]
        have HJ2:Hid (∀ j,j < k + 1→R.getD j 0 < pv):=Lib.hid (fun j hj=>by
         by_cases q:j=k
         ·subst q; rw [hxe]; exact hx
         ·exact HJ.out j (by omega))
        clear hx
        go_wp2_with fail
        go_quiet (fail)
        go_wp2_with fail
        go_roundw
        case rel=>exact ⟨k + 1,hkl,by go_num,Lib.hid (below_next HBQ.out (bel_drewN _ _)),HJ2⟩
        case measure=>simp [intOf]; omega
       ·have d4:decide (x < pv)=false:=by simp [hx]
        by_cases hy:x=pv
        ·have d5:(x == pv)=true:=by simp [hy]
         have HP:=Lib.hid (put_same hkl (hxe.trans hy))
         clear hy hx
         go_wp2_with fail
         go_quiet (fail)
         go_wp2_with fail
         go_quiet (fail)
         go_wp2_with fail
         go_roundw
         case rel=>exact ⟨q + 1,R,hlt,by go_num,Lib.hid (HL2.out.next (below_next HBQ.out (bel_drewN _ _))),Lib.hid (regs_put hlt HR.out hpp HP.out),Lib.hid (below_next HB.out (below_next HBQ.out (bel_drewN _ _)))⟩
         case measure=>simp [intOf]; omega
        ·have d5:(x == pv)=false:=by simp [hy]
         have HP:=Lib.hid (put_in (k:=k) HJ.out hk (fun _=>by rw [hxe]; omega))
         clear hy hx
         have j1:k≤cc:=by omega
         have j3:¬ cc=k:=by omega
         go_wp2_with fail
         go_quiet (fail)
         go_wp2_with fail
         go_quiet (fail)
         go_wp2_with fail
         generalize hW:World.drewN (World.drewN wq _) _=W
         have HBW:Hid (Below wo.heap.size wo W):=Lib.hid (by rw [← hW]; exact below_next (below_next HBQ.out (bel_drewN _ _)) (bel_drewN _ _))
         clear hW
         have e1:=cell_next c1 HBW.out
         have HCW:Hid (∀ i,i < R.length→W.cell? ⟨g,i,none⟩=some (.int .i64 (R.getD i 0))):=Lib.hid (fun i hi=>cell_next (HCE.out i hi) HBW.out)
         refine regsreg_l W (.slice (some ⟨g,0,none⟩) R.length cc) (.slice (some ⟨g,0,none⟩) k cc) (.slice (some ⟨g,k,none⟩) (R.length - k) (cc - k)) (some ⟨g,0,none⟩) (some ⟨g,k,none⟩) b o L.length cL cc (cc - k) k q pv R hk (by omega) hlt (by omega) e1 rfl rfl (.inr ⟨_,rfl,take_news HCW.out hk⟩) (.inr ⟨_,rfl,drop_news HCW.out⟩) _ _ _ _ _ _ _ _ _ _ _ _ _ _ _ _ _ _ _ _ _ _ _ _ _ _ _ _ _ _ _ _ _ _ _ _ _ _ _ _ _ _ _ _ _ _ _ _ _ _ _ _ _ _ _ _ _ _ _ _ _ _ _ _  _ (fun _ _ _ _ _ h=>h) ?_ ?_ ?_
         ·intro a w' e1 e2
          go_simp
          try (intro q; omega)
         ·intro a w' e1 e2
          go_simp
          try (intro q; omega)
         ·intro y52 y53 y54 y55 y56 y57 y58 y59 y60 y61 y62 y63 y64 y65 y66 v3 W' hv hb
          have HV:=Lib.hid hv
          have HB3:=Lib.hid (below_next HBW.out hb)
          clear hv hb
          go_wp2_with fail
          go_roundw
          case rel=>exact ⟨q + 1,_,hlt,by go_num,HV,Lib.hid (regs_put hlt HR.out hpp HP.out),Lib.hid (below_next HB.out HB3.out)⟩
          case measure=>simp [intOf]; omega
      ·have d3:decide ((k:Int) < (R.length:Int))=false:=by rw [decide_eq_false_iff_not]; omega
       have i3:¬ (k:Int) < (R.length:Int):=by omega
       obtain rfl:k=R.length:=by omega
       have HP:=Lib.hid (put_in (k:=R.length) HJ.out hk (fun q=>absurd q (Nat.lt_irrefl _)))
       by_cases hkc:R.length=cc
       ·subst hkc
        go_wp2_with fail
        go_quiet (fail)
        go_wp2_with fail
        go_quiet (fail)
        go_wp2_with fail
        generalize hW:World.drewN (World.drewN wq _) _=W
        have HBW:Hid (Below wo.heap.size wo W):=Lib.hid (by rw [← hW]; exact below_next (below_next HBQ.out (bel_drewN _ _)) (bel_drewN _ _))
        clear hW
        have e1:=cell_next c1 HBW.out
        have HCW:Hid (∀ i,i < R.length→W.cell? ⟨g,i,none⟩=some (.int .i64 (R.getD i 0))):=Lib.hid (fun i hi=>cell_next (HCE.out i hi) HBW.out)
        refine regsreg_l W (.slice (some ⟨g,0,none⟩) R.length R.length) (.slice (some ⟨g,0,none⟩) R.length R.length) (.slice (some ⟨g,0,none⟩) (R.length - R.length) (R.length - R.length)) (some ⟨g,0,none⟩) (some ⟨g,0,none⟩) b o L.length cL R.length (R.length - R.length) R.length q pv R hk (by omega) hlt (by omega) e1 rfl rfl (.inr ⟨_,rfl,take_news HCW.out hk⟩) (.inl (Nat.sub_self _)) _ _ _ _ _ _ _ _ _ _ _ _ _ _ _ _ _ _ _ _ _ _ _ _ _ _ _ _ _ _ _ _ _ _ _ _ _ _ _ _ _ _ _ _ _ _ _ _ _ _ _ _ _ _ _ _ _ _ _ _ _ _ _ _  _ (fun _ _ _ _ _ h=>h) ?_ ?_ ?_
        ·intro a w' e1 e2
         go_simp
         try (intro q; omega)
        ·intro a w' e1 e2
         go_simp
         try (intro q; omega)
        ·intro y52 y53 y54 y55 y56 y57 y58 y59 y60 y61 y62 y63 y64 y65 y66 v3 W' hv hb
         have HV:=Lib.hid hv
         have HB3:=Lib.hid (below_next HBW.out hb)
         clear hv hb
         go_wp2_with fail
         go_roundw
         case rel=>exact ⟨q + 1,_,hlt,by go_num,HV,Lib.hid (regs_put hlt HR.out hpp HP.out),Lib.hid (below_next HB.out HB3.out)⟩
         case measure=>simp [intOf]; omega
       ·go_wp2_with fail
        go_quiet (fail)
        go_wp2_with fail
        go_quiet (fail)
        go_wp2_with fail
        generalize hW:World.drewN (World.drewN wq _) _=W
        have HBW:Hid (Below wo.heap.size wo W):=Lib.hid (by rw [← hW]; exact below_next (below_next HBQ.out (bel_drewN _ _)) (bel_drewN _ _))
        clear hW
        have e1:=cell_next c1 HBW.out
        have HCW:Hid (∀ i,i < R.length→W.cell? ⟨g,i,none⟩=some (.int .i64 (R.getD i 0))):=Lib.hid (fun i hi=>cell_next (HCE.out i hi) HBW.out)
        refine regsreg_l W (.slice (some ⟨g,0,none⟩) R.length cc) (.slice (some ⟨g,0,none⟩) R.length cc) (.slice (some ⟨g,R.length,none⟩) (R.length - R.length) (cc - R.length)) (some ⟨g,0,none⟩) (some ⟨g,R.length,none⟩) b o L.length cL cc (cc - R.length) R.length q pv R hk (by omega) hlt (by omega) e1 rfl rfl (.inr ⟨_,rfl,take_news HCW.out hk⟩) (.inl (Nat.sub_self _)) _ _ _ _ _ _ _ _ _ _ _ _ _ _ _ _ _ _ _ _ _ _ _ _ _ _ _ _ _ _ _ _ _ _ _ _ _ _ _ _ _ _ _ _ _ _ _ _ _ _ _ _ _ _ _ _ _ _ _ _ _ _ _ _  _ (fun _ _ _ _ _ h=>h) ?_ ?_ ?_
        ·intro a w' e1 e2
         go_simp
         try (intro q; omega)
        ·intro a w' e1 e2
         go_simp
         try (intro q; omega)
        ·intro y52 y53 y54 y55 y56 y57 y58 y59 y60 y61 y62 y63 y64 y65 y66 v3 W' hv hb
         have HV:=Lib.hid hv
         have HB3:=Lib.hid (below_next HBW.out hb)
         clear hv hb
         go_wp2_with fail
         go_roundw
         case rel=>exact ⟨q + 1,_,hlt,by go_num,HV,Lib.hid (regs_put hlt HR.out hpp HP.out),Lib.hid (below_next HB.out HB3.out)⟩
         case measure=>simp [intOf]; omega
   ·have k2:(pk != 2)=true:=by simp [h2]
    go_wp2_with fail
    go_roundw
    case rel=>exact ⟨q + 1,R,hlt,by go_num,HL,Lib.hid (regs_skip hlt HR.out hpp h2),HB⟩
    case measure=>simp [intOf]; omega
  ·have d1:decide ((q:Int) < (L.length:Int))=false:=by rw [decide_eq_false_iff_not]; omega
   obtain rfl:q=L.length:=by omega
   go_wp2_with fail
   go_ret
   exact ⟨⟨_,R,rfl,HL.out,HR.out⟩,HB.out⟩
end Go.Proofs.Yteghpophcnehgaa
namespace Go.Proofs.Yteghpophcnehgaa
open Go.RowKit ExprA SndA
def ofG0:Oper:={ dst:=some 61,op:=Op.call { callee:=Callee.builtin Builtin.append,args:=#[Operand.const (Value.slice none 0 0),Operand.tmp 60],argTypes:=#[36,36] },type:=36,pos := "ref.go:72", after:=#[{ on:=2,ground:=Ground.data }],guard:=none }
def ofG1:Oper:={ dst:=some 62,op:=Op.load 123 (Operand.tmp 8),type:=123,pos := "ref.go:72", after:=#[],guard:=none }
def ofG2:Oper:={ dst:=some 63,op:=Op.buildSlice 36 1 #[(0,Operand.tmp 62)],type:=36,pos := "ref.go:72", after:=#[{ on:=4,ground:=Ground.data }],guard:=none }
def ofG3:Oper:={ dst:=some 64,op:=Op.call { callee:=Callee.builtin Builtin.append,args:=#[Operand.tmp 61,Operand.tmp 63],argTypes:=#[36,36] },type:=36,pos := "ref.go:72", after:=#[{ on:=3,ground:=Ground.data },{ on:=5,ground:=Ground.data },{ on:=3,ground:=Ground.chain }],guard:=none }
def ofG4:Oper:={ dst:=some 68,op:=Op.call { callee:=Callee.builtin Builtin.append,args:=#[Operand.tmp 64,Operand.tmp 67],argTypes:=#[36,36] },type:=36,pos := "ref.go:72", after:=#[{ on:=6,ground:=Ground.data },{ on:=9,ground:=Ground.data },{ on:=6,ground:=Ground.chain }],guard:=none }
def ofG5:Oper:={ dst:=some 0,op:=Op.assign (Operand.tmp 68),type:=36,pos := "ref.go:72", after:=#[{ on:=10,ground:=Ground.data },{ on:=10,ground:=Ground.chain },{ on:=0,ground:=Ground.phase },{ on:=1,ground:=Ground.phase },{ on:=2,ground:=Ground.phase },{ on:=3,ground:=Ground.phase },{ on:=4,ground:=Ground.phase },{ on:=5,ground:=Ground.phase },{ on:=6,ground:=Ground.phase },{ on:=7,ground:=Ground.phase },{ on:=8,ground:=Ground.phase },{ on:=9,ground:=Ground.phase },{ on:=10,ground:=Ground.phase }],guard:=none }
def rfG0:Array Oper:=#[{ dst:=some 58,op:=Op.move (Operand.tmp 0),type:=36,pos := "ref.go:72", after:=#[],guard:=none },{ dst:=some 59,op:=Op.move (Operand.tmp 9),type:=3,pos := "ref.go:72", after:=#[],guard:=none },{ dst:=some 60,op:=Op.slice 36 (Operand.tmp 58) none (some (Operand.tmp 59)) none,type:=36,pos := "ref.go:72", after:=#[{ on:=0,ground:=Ground.data },{ on:=1,ground:=Ground.data }],guard:=none },{ dst:=some 61,op:=Op.call { callee:=Callee.builtin Builtin.append,args:=#[Operand.const (Value.slice none 0 0),Operand.tmp 60],argTypes:=#[36,36] },type:=36,pos := "ref.go:72", after:=#[{ on:=2,ground:=Ground.data }],guard:=none },{ dst:=some 62,op:=Op.load 123 (Operand.tmp 8),type:=123,pos := "ref.go:72", after:=#[],guard:=none },{ dst:=some 63,op:=Op.buildSlice 36 1 #[(0,Operand.tmp 62)],type:=36,pos := "ref.go:72", after:=#[{ on:=4,ground:=Ground.data }],guard:=none },{ dst:=some 64,op:=Op.call { callee:=Callee.builtin Builtin.append,args:=#[Operand.tmp 61,Operand.tmp 63],argTypes:=#[36,36] },type:=36,pos := "ref.go:72", after:=#[{ on:=3,ground:=Ground.data },{ on:=5,ground:=Ground.data },{ on:=3,ground:=Ground.chain }],guard:=none },{ dst:=some 65,op:=Op.move (Operand.tmp 0),type:=36,pos := "ref.go:72", after:=#[],guard:=none },{ dst:=some 66,op:=Op.move (Operand.tmp 9),type:=3,pos := "ref.go:72", after:=#[],guard:=none },{ dst:=some 67,op:=Op.slice 36 (Operand.tmp 65) (some (Operand.tmp 66)) none none,type:=36,pos := "ref.go:72", after:=#[{ on:=7,ground:=Ground.data },{ on:=8,ground:=Ground.data }],guard:=none },{ dst:=some 68,op:=Op.call { callee:=Callee.builtin Builtin.append,args:=#[Operand.tmp 64,Operand.tmp 67],argTypes:=#[36,36] },type:=36,pos := "ref.go:72", after:=#[{ on:=6,ground:=Ground.data },{ on:=9,ground:=Ground.data },{ on:=6,ground:=Ground.chain }],guard:=none },{ dst:=some 0,op:=Op.assign (Operand.tmp 68),type:=36,pos := "ref.go:72", after:=#[{ on:=10,ground:=Ground.data },{ on:=10,ground:=Ground.chain },{ on:=0,ground:=Ground.phase },{ on:=1,ground:=Ground.phase },{ on:=2,ground:=Ground.phase },{ on:=3,ground:=Ground.phase },{ on:=4,ground:=Ground.phase },{ on:=5,ground:=Ground.phase },{ on:=6,ground:=Ground.phase },{ on:=7,ground:=Ground.phase },{ on:=8,ground:=Ground.phase },{ on:=9,ground:=Ground.phase },{ on:=10,ground:=Ground.phase }],guard:=none }]
namespace SndA
def PV (w:World) (v:Value) (L:List (Int × Int)):Prop:=w.ownsRow 0 123 2 v L.length (icells L)
theorem PV.next {w w':World} {v:Value} {L:List (Int × Int)} (h:PV w v L) (hb:Below w.heap.size w w'):PV w' v L:=own_below h hb
theorem PV.nil (w:World):PV w (.slice none 0 0) []:=World.ownsRow_nil _ _ _ _
theorem icells_at (L:List (Int × Int)):∀ i,i < L.length→(icells L)[i * 2]?=some (.int .i64 (L.getD i (0,0)).1)∧(icells L)[i * 2 + 1]?=some (.int .i64 (L.getD i (0,0)).2):=by
 induction L with
 | nil=>intro i hi; cases hi
 | cons p L ih=>
  intro i hi
  cases i with
  | zero=>exact ⟨rfl,rfl⟩
  | succ i=>
   have:=ih i (by simpa using hi)
   have e:icells (p::L)=[.int .i64 p.1,.int .i64 p.2] ++ icells L:=rfl
   have key:∀ k,(icells (p::L))[(i + 1) * 2 + k]?=(icells L)[i * 2 + k]?:=fun k=>by
    rw [e,List.getElem?_append_right (by simp; omega)]
    congr 1; simp; omega
   have k0:=key 0
   rw [Nat.add_zero,Nat.add_zero] at k0
   rw [k0,key 1]
   exact this
theorem PV.form {w:World} {v:Value} {L:List (Int × Int)} (h:PV w v L):(v=.slice none 0 0∧L=[]) ∨ ∃ g c,v=.slice (some ⟨g,0,none⟩) L.length c∧g < w.heap.size∧L.length≤c∧c≤maxLen∧∀ i,i < L.length→w.cell? ⟨g,i * 2,none⟩=some (.int .i64 (L.getD i (0,0)).1)∧w.cell? ⟨g,i * 2 + 1,none⟩=some (.int .i64 (L.getD i (0,0)).2):=by
 have hc:=fun g hg=>World.ownsRow.cells h (g:=g) hg
 have hl:=World.ownsRow.lt h
 rcases h.2 with ⟨h1,h2⟩ | ⟨g,cap,cur,rfl,_,_,hle,hmx,_⟩
 ·exact .inl ⟨h1,List.eq_nil_of_length_eq_zero h2⟩
 ·refine .inr ⟨g,cap,rfl,(hl g rfl).2,hle,hmx,fun i hi=>?_⟩
  obtain ⟨a0,a1⟩:=icells_at L i hi
  have e:∀ j,(⟨g,0,none⟩:Addr).add j=⟨g,j,none⟩:=fun j=>by unfold Addr.add; simp; intro q; exact q.symm
  have b0:=hc g rfl _ _ a0
  have b1:=hc g rfl _ _ a1
  rw [e] at b0 b1
  exact ⟨b0,b1⟩
theorem PV.of_own {w0 w:World} {v:Value} {n:Nat} {L:List (Int × Int)} (h:w.ownsRow w0.heap.size 123 2 v n (icells L)) (hn:n=L.length):PV w v L:=by subst hn; exact own_lower h (Nat.zero_le _)
theorem insp_row (A B:List (Int × Int)) (x y:Int):[] ++ icells A ++ [.int .i64 x,.int .i64 y] ++ icells B=icells (A ++ [(x,y)] ++ B):=by simp [icells]
theorem icells_one (l:List (Int × Int)):∀ u ∈ icells l,u.oneCell'=true:=by
 intro u hu
 obtain ⟨p,_,hp⟩:=List.mem_flatMap.1 hu
 simp only [List.mem_cons,List.not_mem_nil,or_false] at hp
 rcases hp with rfl | rfl <;> rfl
theorem pnews_cells {w:World} {g o:Nat} {M:List (Int × Int)} (h:∀ i,i < M.length→w.cell? ⟨g,o + i * 2,none⟩=some (.int .i64 (M.getD i (0,0)).1)∧w.cell? ⟨g,o + i * 2 + 1,none⟩=some (.int .i64 (M.getD i (0,0)).2)):∀ j u,(icells M)[j]?=some u→w.cell? ((⟨g,o,none⟩:Addr).add j)=some u:=by
 intro j u hj
 have e:(⟨g,o,none⟩:Addr).add j=⟨g,o + j,none⟩:=by unfold Addr.add; simp
 have hl:j < M.length * 2:=by
  rcases Nat.lt_or_ge j (M.length * 2) with r | r
  ·exact r
  ·rw [List.getElem?_eq_none (by rw [icells_len]; exact r)] at hj; cases hj
 have hi:j / 2 < M.length:=by omega
 obtain ⟨a0,a1⟩:=icells_at M (j / 2) hi
 obtain ⟨b0,b1⟩:=h (j / 2) hi
 rw [e]
 rcases Nat.mod_two_eq_zero_or_one j with q | q
 ·have ej:j / 2 * 2=j:=by omega
  rw [ej] at a0 b0
  rw [a0] at hj; cases hj; exact b0
 ·have ej:j / 2 * 2 + 1=j:=by omega
  rw [Nat.add_assoc,ej] at b1
  rw [ej] at a1
  rw [a1] at hj; cases hj; exact b1
theorem ptake_news {w:World} {g k:Nat} {L:List (Int × Int)} (h:∀ i,i < L.length→w.cell? ⟨g,i * 2,none⟩=some (.int .i64 (L.getD i (0,0)).1)∧w.cell? ⟨g,i * 2 + 1,none⟩=some (.int .i64 (L.getD i (0,0)).2)) (hk:k≤L.length):∀ W,Below w.heap.size w W→∀ j u,(icells (L.take k))[j]?=some u→W.cell? ((⟨g,0,none⟩:Addr).add j)=some u:=fun W hb=>pnews_cells (fun i hi=>by
 have hi2:i < k:=by simp at hi; omega
 have e:(L.take k).getD i (0,0)=L.getD i (0,0):=by simp [List.getD_eq_getElem?_getD,hi2]
 rw [e,Nat.zero_add]
 exact ⟨cell_next (h i (by omega)).1 hb,cell_next (h i (by omega)).2 hb⟩)
theorem pdrop_news {w:World} {g k:Nat} {L:List (Int × Int)} (h:∀ i,i < L.length→w.cell? ⟨g,i * 2,none⟩=some (.int .i64 (L.getD i (0,0)).1)∧w.cell? ⟨g,i * 2 + 1,none⟩=some (.int .i64 (L.getD i (0,0)).2)):∀ W,Below w.heap.size w W→∀ j u,(icells (L.drop k))[j]?=some u→W.cell? ((⟨g,k * 2,none⟩:Addr).add j)=some u:=fun W hb=>pnews_cells (fun i hi=>by
 have hi2:k + i < L.length:=by simp at hi; omega
 have e:(L.drop k).getD i (0,0)=L.getD (k + i) (0,0):=by simp [List.getD_eq_getElem?_getD]
 have e1:k * 2 + i * 2=(k + i) * 2:=by omega
 rw [e,e1]
 exact ⟨cell_next (h (k + i) hi2).1 hb,cell_next (h (k + i) hi2).2 hb⟩)
end SndA
set_option maxRecDepth 20000 in
set_option maxHeartbeats 4000000 in
theorem pairreg_l (w:World) (v p1 p2:Value) (a1 a2:Option Addr) (pb c1 c2 k:Nat) (x y:Int) (L:List (Int × Int)) (hk:k≤L.length) (hL:L.length≤1000) (hx:w.cell? ⟨pb,0,none⟩=some (.int .i64 x)) (hy:w.cell? ⟨pb,1,none⟩=some (.int .i64 y)) (e1:p1=.slice a1 k c1) (e2:p2=.slice a2 (L.length - k) c2)
  (hn1:k=0 ∨ ∃ ad,a1=some ad∧∀ W,Below w.heap.size w W→∀ j u,(icells (L.take k))[j]?=some u→W.cell? (ad.add j)=some u)
  (hn2:L.length - k=0 ∨ ∃ ad,a2=some ad∧∀ W,Below w.heap.size w W→∀ j u,(icells (L.drop k))[j]?=some u→W.cell? (ad.add j)=some u)
  (z1 z2 z3 z4 z5 z6 z7 z10 z11 z12 z13 z14 z15 z16 z17 z18 z19 z20 z21 z22 z23 z24 z25 z26 z27 z28 z29 z30 z31 z32 z33 z34 z35 z36 z37 z38 z39 z40 z41 z42 z43 z44 z45 z46 z47 z48 z49 z50 z51 z52 z53 z54 z55 z56 z57 z58 z59 z60 z61 z62 z63 z64 z65 z66 z67 z68 z69:Value) (Q:Exit→Act→World→Prop)
  (hQp:∀ c (a:Act) (d:Tmp) v w,Q (.panic c) (a.put (some d) v) w→Q (.panic c) a w)
  (h1:∀ (a:Act) (w':World),a.tmps[58]?.getD undef=v→a.tmps[59]?.getD undef=.int .i64 (k:Int)→(execOp a.eval { dst:=some 60,op:=Op.slice 36 (Operand.tmp 58) none (some (Operand.tmp 59)) none,type:=36,pos := "ref.go:72", after:=#[{ on:=0,ground:=Ground.data },{ on:=1,ground:=Ground.data }],guard:=none }).run Try.prog w'=.ok (.value p1) w')
  (h2:∀ (a:Act) (w':World),a.tmps[65]?.getD undef=v→a.tmps[66]?.getD undef=.int .i64 (k:Int)→(execOp a.eval { dst:=some 67,op:=Op.slice 36 (Operand.tmp 65) (some (Operand.tmp 66)) none none,type:=36,pos := "ref.go:72", after:=#[{ on:=7,ground:=Ground.data },{ on:=8,ground:=Ground.data }],guard:=none }).run Try.prog w'=.ok (.value p2) w')
  (hQ:∀ (y58 y59 y60 y61 y62 y63 y64 y65 y66 y67 y68 v0:Value) (W':World),PV W' v0 (L.take k ++ [(x,y)] ++ L.drop k)→(∀ b,v0.ownBlock=some b→w.heap.size≤b)→Below w.heap.size w W'→Q .normal { tmps:=(v0::z1::z2::z3::z4::z5::z6::z7::.pointer (some ⟨pb,0,none⟩)::.int .i64 (k:Int)::z10::z11::z12::z13::z14::z15::z16::z17::z18::z19::z20::z21::z22::z23::z24::z25::z26::z27::z28::z29::z30::z31::z32::z33::z34::z35::z36::z37::z38::z39::z40::z41::z42::z43::z44::z45::z46::z47::z48::z49::z50::z51::z52::z53::z54::z55::z56::z57::y58::y59::y60::y61::y62::y63::y64::y65::y66::y67::y68::z69::[]).toArray,defers:=[] } W') :
  Code.wp Try.prog (Code.region 8 rfG0 true) Q { tmps:=(v::z1::z2::z3::z4::z5::z6::z7::.pointer (some ⟨pb,0,none⟩)::.int .i64 (k:Int)::z10::z11::z12::z13::z14::z15::z16::z17::z18::z19::z20::z21::z22::z23::z24::z25::z26::z27::z28::z29::z30::z31::z32::z33::z34::z35::z36::z37::z38::z39::z40::z41::z42::z43::z44::z45::z46::z47::z48::z49::z50::z51::z52::z53::z54::z55::z56::z57::z58::z59::z60::z61::z62::z63::z64::z65::z66::z67::z68::z69::[]).toArray,defers:=[] } w:=by
 unfold rfG0
 subst e1
 subst e2
 refine wp_region_any (by kernel_rfl) ?_
 have hB:=(MI.nil w 123 2).drew
 change wpAny _ _ _ _ _ _ _ (World.drew _)
 generalize World.drew w=W at hB ⊢
 refine wpAny_take (i:=0) (v:=v) rfl (by kernel_rfl) (by kernel_rfl) (by kernel_rfl) (fun c a w=>hQp c a _ _ w) (Or.inl ⟨by rfl,?_⟩) ?_
 ·intro w
  go_simp
 refine wpAny_take (i:=1) (v:=.int .i64 (k:Int)) rfl (by kernel_rfl) (by kernel_rfl) (by kernel_rfl) (fun c a w=>hQp c a _ _ w) (Or.inl ⟨by rfl,?_⟩) ?_
 ·intro w
  go_simp
 refine wpAny_take (i:=2) (v:=.slice a1 k c1) rfl (by kernel_rfl) (by kernel_rfl) (by kernel_rfl) (fun c a w=>hQp c a _ _ w) (Or.inl ⟨by rfl,?_⟩) ?_
 ·intro w
  exact h1 _ w (by kernel_rfl) (by kernel_rfl)
 refine wpAny_take (i:=7) (v:=v) rfl (by kernel_rfl) (by kernel_rfl) (by kernel_rfl) (fun c a w=>hQp c a _ _ w) (Or.inl ⟨by rfl,?_⟩) ?_
 ·intro w
  go_simp
 refine wpAny_take (i:=8) (v:=.int .i64 (k:Int)) rfl (by kernel_rfl) (by kernel_rfl) (by kernel_rfl) (fun c a w=>hQp c a _ _ w) (Or.inl ⟨by rfl,?_⟩) ?_
 ·intro w
  go_simp
 refine wpAny_take (i:=9) (v:=.slice a2 (L.length - k) c2) rfl (by kernel_rfl) (by kernel_rfl) (by kernel_rfl) (fun c a w=>hQp c a _ _ w) (Or.inl ⟨by rfl,?_⟩) ?_
 ·intro w
  exact h2 _ w (by kernel_rfl) (by kernel_rfl)
 show wpAny _ _ _ _ 6 _ _ _
 refine wpAny_all (rs:=[3,4]) (by kernel_rfl) (by simp) ?_
 intro i hi
 simp only [List.mem_cons,List.not_mem_nil,or_false] at hi
 rcases hi with rfl | rfl
 ·obtain ⟨v3,W3,hr3,hB3⟩:=hB.app (t:=36) (e0:=123) (z:=.agg #[.int .i64 0,.int .i64 0]) (bytes:=16) Try.underlying36 infoPair rfl (by omega) (by omega) 36 a1 k c1 (icells (L.take k)) (by rw [icells_len]; simp; omega) (by rcases hn1 with q | ⟨ad,q,r⟩; exact .inl q; exact .inr ⟨ad,q,r _ hB.bel⟩) (icells_one _) (by omega)
  clear hB
  have hB:=hB3
  clear hB3
  refine wpOp_one (o:=ofG0) (by rfl) rfl ?_
  unfold ofG0
  refine appOp (Operand.const (Value.slice none 0 0)) (Operand.tmp 60) 36 rfl (by kernel_rfl) (by kernel_rfl) hr3 ?_
  refine wpAny_all (rs:=[4]) (by kernel_rfl) (by simp) ?_
  intro i hi
  simp only [List.mem_singleton] at hi
  subst hi
  have cx:=cell_next hx hB.bel
  have cy:=cell_next hy hB.bel
  refine wpOp_one (o:=ofG1) (by rfl) rfl ?_
  unfold ofG1
  unfold Oper.wp
  go_simp
  clear cx cy
  refine wpAny_all (rs:=[5]) (by kernel_rfl) (by simp) ?_
  intro i hi
  simp only [List.mem_singleton] at hi
  subst hi
  have hB5:=hB.alloc (Obj.cells ([.int .i64 x,.int .i64 y]:List Value).toArray 123 (0,0))
  clear hB
  have hB:=hB5
  clear hB5
  refine wpOp_one (o:=ofG2) (by rfl) rfl ?_
  unfold ofG2
  unfold Oper.wp
  go_simp
  refine wpAny_all (rs:=[6]) (by kernel_rfl) (by simp) ?_
  intro i hi
  simp only [List.mem_singleton] at hi
  subst hi
  obtain ⟨v6,W6,hr6,hB6⟩:=hB.app (t:=36) (e0:=123) (z:=.agg #[.int .i64 0,.int .i64 0]) (bytes:=16) Try.underlying36 infoPair rfl (by omega) (by omega) 36 (some ⟨W3.heap.size,0,none⟩) 1 1 [.int .i64 x,.int .i64 y] rfl (.inr ⟨_,rfl,into_src hB (List.mem_cons_self ..)⟩) (by intro u hu; simp at hu; rcases hu with rfl | rfl <;> rfl) (by omega)
  clear hB
  have hB:=hB6
  clear hB6
  refine wpOp_one (o:=ofG3) (by rfl) rfl ?_
  unfold ofG3
  refine appOp (Operand.tmp 61) (Operand.tmp 63) 36 rfl (by kernel_rfl) (by kernel_rfl) hr6 ?_
  refine wpAny_all (rs:=[10]) (by kernel_rfl) (by simp) ?_
  intro i hi
  simp only [List.mem_singleton] at hi
  subst hi
  obtain ⟨v10,W10,hr10,hB10⟩:=hB.app (t:=36) (e0:=123) (z:=.agg #[.int .i64 0,.int .i64 0]) (bytes:=16) Try.underlying36 infoPair rfl (by omega) (by omega) 36 a2 (L.length - k) c2 (icells (L.drop k)) (by rw [icells_len]; simp) (by rcases hn2 with q | ⟨ad,q,r⟩; exact .inl q; exact .inr ⟨ad,q,r _ hB.bel⟩) (icells_one _) (by omega)
  clear hB
  have hB:=hB10
  clear hB10
  refine wpOp_one (o:=ofG4) (by rfl) rfl ?_
  unfold ofG4
  refine appOp (Operand.tmp 64) (Operand.tmp 67) 36 rfl (by kernel_rfl) (by kernel_rfl) hr10 ?_
  refine wpAny_all (rs:=[11]) (by kernel_rfl) (by simp) ?_
  intro i hi
  simp only [List.mem_singleton] at hi
  subst hi
  refine wpOp_one (o:=ofG5) (by rfl) rfl ?_
  unfold ofG5
  unfold Oper.wp
  go_simp
  refine wpAny_done (by kernel_rfl) ?_ _
  exact hQ _ _ _ _ _ _ _ _ _ _ _ v10 W10 (PV.of_own (by have:=hB.own; rw [insp_row] at this; exact this) (by simp; omega)) (fun b q=>(hB.own.lt b q).1) hB.bel
 ·have cx:=cell_next hx hB.bel
  have cy:=cell_next hy hB.bel
  refine wpOp_one (o:=ofG1) (by rfl) rfl ?_
  unfold ofG1
  unfold Oper.wp
  go_simp
  clear cx cy
  refine wpAny_all (rs:=[3,5]) (by kernel_rfl) (by simp) ?_
  intro i hi
  simp only [List.mem_cons,List.not_mem_nil,or_false] at hi
  rcases hi with rfl | rfl
  ·obtain ⟨v3,W3,hr3,hB3⟩:=hB.app (t:=36) (e0:=123) (z:=.agg #[.int .i64 0,.int .i64 0]) (bytes:=16) Try.underlying36 infoPair rfl (by omega) (by omega) 36 a1 k c1 (icells (L.take k)) (by rw [icells_len]; simp; omega) (by rcases hn1 with q | ⟨ad,q,r⟩; exact .inl q; exact .inr ⟨ad,q,r _ hB.bel⟩) (icells_one _) (by omega)
   clear hB
   have hB:=hB3
   clear hB3
   refine wpOp_one (o:=ofG0) (by rfl) rfl ?_
   unfold ofG0
   refine appOp (Operand.const (Value.slice none 0 0)) (Operand.tmp 60) 36 rfl (by kernel_rfl) (by kernel_rfl) hr3 ?_
   refine wpAny_all (rs:=[5]) (by kernel_rfl) (by simp) ?_
   intro i hi
   simp only [List.mem_singleton] at hi
   subst hi
   have hB5:=hB.alloc (Obj.cells ([.int .i64 x,.int .i64 y]:List Value).toArray 123 (0,0))
   clear hB
   have hB:=hB5
   clear hB5
   refine wpOp_one (o:=ofG2) (by rfl) rfl ?_
   unfold ofG2
   unfold Oper.wp
   go_simp
   refine wpAny_all (rs:=[6]) (by kernel_rfl) (by simp) ?_
   intro i hi
   simp only [List.mem_singleton] at hi
   subst hi
   obtain ⟨v6,W6,hr6,hB6⟩:=hB.app (t:=36) (e0:=123) (z:=.agg #[.int .i64 0,.int .i64 0]) (bytes:=16) Try.underlying36 infoPair rfl (by omega) (by omega) 36 (some ⟨W3.heap.size,0,none⟩) 1 1 [.int .i64 x,.int .i64 y] rfl (.inr ⟨_,rfl,into_src hB (List.mem_cons_self ..)⟩) (by intro u hu; simp at hu; rcases hu with rfl | rfl <;> rfl) (by omega)
   clear hB
   have hB:=hB6
   clear hB6
   refine wpOp_one (o:=ofG3) (by rfl) rfl ?_
   unfold ofG3
   refine appOp (Operand.tmp 61) (Operand.tmp 63) 36 rfl (by kernel_rfl) (by kernel_rfl) hr6 ?_
   refine wpAny_all (rs:=[10]) (by kernel_rfl) (by simp) ?_
   intro i hi
   simp only [List.mem_singleton] at hi
   subst hi
   obtain ⟨v10,W10,hr10,hB10⟩:=hB.app (t:=36) (e0:=123) (z:=.agg #[.int .i64 0,.int .i64 0]) (bytes:=16) Try.underlying36 infoPair rfl (by omega) (by omega) 36 a2 (L.length - k) c2 (icells (L.drop k)) (by rw [icells_len]; simp) (by rcases hn2 with q | ⟨ad,q,r⟩; exact .inl q; exact .inr ⟨ad,q,r _ hB.bel⟩) (icells_one _) (by omega)
   clear hB
   have hB:=hB10
   clear hB10
   refine wpOp_one (o:=ofG4) (by rfl) rfl ?_
   unfold ofG4
   refine appOp (Operand.tmp 64) (Operand.tmp 67) 36 rfl (by kernel_rfl) (by kernel_rfl) hr10 ?_
   refine wpAny_all (rs:=[11]) (by kernel_rfl) (by simp) ?_
   intro i hi
   simp only [List.mem_singleton] at hi
   subst hi
   refine wpOp_one (o:=ofG5) (by rfl) rfl ?_
   unfold ofG5
   unfold Oper.wp
   go_simp
   refine wpAny_done (by kernel_rfl) ?_ _
   exact hQ _ _ _ _ _ _ _ _ _ _ _ v10 W10 (PV.of_own (by have:=hB.own; rw [insp_row] at this; exact this) (by simp; omega)) (fun b q=>(hB.own.lt b q).1) hB.bel
  ·have hB5:=hB.alloc (Obj.cells ([.int .i64 x,.int .i64 y]:List Value).toArray 123 (0,0))
   clear hB
   have hB:=hB5
   clear hB5
   refine wpOp_one (o:=ofG2) (by rfl) rfl ?_
   unfold ofG2
   unfold Oper.wp
   go_simp
   refine wpAny_all (rs:=[3]) (by kernel_rfl) (by simp) ?_
   intro i hi
   simp only [List.mem_singleton] at hi
   subst hi
   obtain ⟨v3,W3,hr3,hB3⟩:=hB.app (t:=36) (e0:=123) (z:=.agg #[.int .i64 0,.int .i64 0]) (bytes:=16) Try.underlying36 infoPair rfl (by omega) (by omega) 36 a1 k c1 (icells (L.take k)) (by rw [icells_len]; simp; omega) (by rcases hn1 with q | ⟨ad,q,r⟩; exact .inl q; exact .inr ⟨ad,q,r _ hB.bel⟩) (icells_one _) (by omega)
   clear hB
   have hB:=hB3
   clear hB3
   refine wpOp_one (o:=ofG0) (by rfl) rfl ?_
   unfold ofG0
   refine appOp (Operand.const (Value.slice none 0 0)) (Operand.tmp 60) 36 rfl (by kernel_rfl) (by kernel_rfl) hr3 ?_
   refine wpAny_all (rs:=[6]) (by kernel_rfl) (by simp) ?_
   intro i hi
   simp only [List.mem_singleton] at hi
   subst hi
   obtain ⟨v6,W6,hr6,hB6⟩:=hB.app (t:=36) (e0:=123) (z:=.agg #[.int .i64 0,.int .i64 0]) (bytes:=16) Try.underlying36 infoPair rfl (by omega) (by omega) 36 (some ⟨W.heap.size,0,none⟩) 1 1 [.int .i64 x,.int .i64 y] rfl (.inr ⟨_,rfl,into_src hB (List.mem_cons_self ..)⟩) (by intro u hu; simp at hu; rcases hu with rfl | rfl <;> rfl) (by omega)
   clear hB
   have hB:=hB6
   clear hB6
   refine wpOp_one (o:=ofG3) (by rfl) rfl ?_
   unfold ofG3
   refine appOp (Operand.tmp 61) (Operand.tmp 63) 36 rfl (by kernel_rfl) (by kernel_rfl) hr6 ?_
   refine wpAny_all (rs:=[10]) (by kernel_rfl) (by simp) ?_
   intro i hi
   simp only [List.mem_singleton] at hi
   subst hi
   obtain ⟨v10,W10,hr10,hB10⟩:=hB.app (t:=36) (e0:=123) (z:=.agg #[.int .i64 0,.int .i64 0]) (bytes:=16) Try.underlying36 infoPair rfl (by omega) (by omega) 36 a2 (L.length - k) c2 (icells (L.drop k)) (by rw [icells_len]; simp) (by rcases hn2 with q | ⟨ad,q,r⟩; exact .inl q; exact .inr ⟨ad,q,r _ hB.bel⟩) (icells_one _) (by omega)
   clear hB
   have hB:=hB10
   clear hB10
   refine wpOp_one (o:=ofG4) (by rfl) rfl ?_
   unfold ofG4
   refine appOp (Operand.tmp 64) (Operand.tmp 67) 36 rfl (by kernel_rfl) (by kernel_rfl) hr10 ?_
   refine wpAny_all (rs:=[11]) (by kernel_rfl) (by simp) ?_
   intro i hi
   simp only [List.mem_singleton] at hi
   subst hi
   refine wpOp_one (o:=ofG5) (by rfl) rfl ?_
   unfold ofG5
   unfold Oper.wp
   go_simp
   refine wpAny_done (by kernel_rfl) ?_ _
   exact hQ _ _ _ _ _ _ _ _ _ _ _ v10 W10 (PV.of_own (by have:=hB.own; rw [insp_row] at this; exact this) (by simp; omega)) (fun b q=>(hB.own.lt b q).1) hB.bel
end Go.Proofs.Yteghpophcnehgaa
