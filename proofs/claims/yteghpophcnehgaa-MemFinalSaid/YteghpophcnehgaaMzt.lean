/-
  mem.Has: a list is one of some, by slices.ContainsFunc. Conditions: the lists in memory.
-/
import Derived.Test.YteghpophcnehgaaMzs
import Derived.Handy
namespace Go.Proofs.Yteghpophcnehgaa
open Go.RowKit Mem
namespace Mem
theorem mem_yes {C:List Ls} {L:List Int} {k:Nat} (h:k < C.length) (e:(C.getD k Ls.zero).L=L):L ∈ mL C:=by
 unfold mL
 rw [List.mem_map]
 exact ⟨_,getD_mem h,e⟩
theorem mem_no {C:List Ls} {L:List Int} (h:∀ j,j < C.length→(C.getD j Ls.zero).L ≠ L):L ∉ mL C:=by
 unfold mL
 rw [List.mem_map]
 rintro ⟨x,hx,rfl⟩
 obtain ⟨i,hi,rfl⟩:=List.getElem_of_mem hx
 refine h i hi ?_
 rw [List.getD_eq_getElem?_getD,List.getElem?_eq_getElem hi]
 rfl
def IdxSays (C:List Ls) (L:List Int) (w:World) (e:Ending) (w':World):Prop:=∃ r:Int,e=.returned (.int .i64 r)∧-1≤r∧r≤1000000∧(0≤r ↔ L ∈ mL C)∧∃ q,w'=w.drewN q
end Mem
set_option maxRecDepth 20000 in
set_option maxHeartbeats 1600000 in
theorem has1_l (x m:Ls) (g:Nat) (w:World) (hx:NsIn w x.a x.L) (hm:NsIn w m.a m.L) (hl:x.L.length≤1000000) (hr:m.L.length≤1000000) (hg:w.cell? ⟨g,0,none⟩=some m.v) :
  Calls Try.prog 29 #[x.v,.pointer (some ⟨g,0,none⟩)] w fun e w'=>e=.returned (.bool (decide (x.L=m.L)))∧∃ q,w'=w.drewN q:=by
 have HC:=Lib.hid (compare_l x m w hx hm hl hr)
 by_cases h:x.L=m.L
 ·have hz:cmpL x.L m.L=0:=by rw [h]; exact cmpL_self _
  rw [show decide (x.L=m.L)=true by simp [h]]
  rw [hz] at HC
  obtain ⟨xa,l,xc⟩:=x
  obtain ⟨ma,r,mc⟩:=m
  unfold Ls.v at HC hg ⊢
  dsimp only at HC hg ⊢
  clear hx hm h hz
  go_enter Try.func29,Try.ntmps29
  go_wp2_with fail
  refine HC.out.mono ?_
  rintro e w' ⟨rfl,q,rfl⟩
  go_wp2_with fail
  go_ret
  exact ⟨rfl,q,rfl⟩
 ·have hz:(cmpL x.L m.L == 0)=false:=by
   have:cmpL x.L m.L ≠ 0:=fun e=>h (cmpL_eq e)
   simpa using this
  rw [show decide (x.L=m.L)=false by simp [h]]
  generalize cmpL x.L m.L=z at *
  obtain ⟨xa,l,xc⟩:=x
  obtain ⟨ma,r,mc⟩:=m
  unfold Ls.v at HC hg ⊢
  dsimp only at HC hg ⊢
  clear hx hm h
  go_enter Try.func29,Try.ntmps29
  go_wp2_with fail
  refine HC.out.mono ?_
  rintro e w' ⟨rfl,q,rfl⟩
  go_wp2_with fail
  go_ret
  exact ⟨rfl,q,rfl⟩
set_option maxRecDepth 20000 in
set_option maxHeartbeats 3200000 in
theorem index_l (a:Option Addr) (C:List Ls) (c:Nat) (m:Ls) (g:Nat) (w:World) (hx:LsIn w a C) (hm:NsIn w m.a m.L) (hl:C.length≤1000000) (hcl:∀ q,q < C.length→(C.getD q Ls.zero).L.length≤1000000) (hml:m.L.length≤1000000) (hg:w.cell? ⟨g,0,none⟩=some m.v) :
  Calls Try.prog 45 #[.slice a C.length c,.func (.func 29) #[] #[.pointer (some ⟨g,0,none⟩)]] w (IdxSays C m.L w):=by
 have HX:=Lib.hid hx
 have HM:=Lib.hid hm
 have HG:=Lib.hid hg
 have HCL:=Lib.hid hcl
 have HMM:=Lib.hid hml
 clear hx hm hg hcl hml
 go_enter Try.func45,Try.ntmps45
 go_wp2_with fail
 go_loopw [8] (fun i wr=>∃ k q:Nat,k≤C.length∧i=.int .i64 k∧Hid (∀ j,j < k→(C.getD j Ls.zero).L ≠ m.L)∧Hid (wr=w.drewN q)) (fun i _=>C.length - (intOf i).toNat)
 case atStart=>exact ⟨0,0,Nat.zero_le _,rfl,Lib.hid (fun j hj=>absurd hj (by omega)),Lib.hid rfl⟩
 case round=>
  obtain ⟨k,q,hk,rfl,HS,hwr⟩:=hrel
  by_cases hlt:k < C.length
  ·have d1:decide ((k:Int) < (C.length:Int))=true:=by simp; omega
   have i1:(k:Int) < (C.length:Int):=by omega
   have HXw:Hid (LsIn wr a C):=Lib.hid (by rw [hwr.out]; exact HX.out.next (below_drewN (Below.refl _ _) q))
   have HMw:Hid (NsIn wr m.a m.L):=Lib.hid (by rw [hwr.out]; exact ns_drewN HM.out q)
   have HGw:Hid (wr.cell? ⟨g,0,none⟩=some m.v):=Lib.hid (by rw [hwr.out]; exact cell_next HG.out (below_drewN (Below.refl _ _) q))
   rcases HXw.out with h0 | ⟨b1,o1,rfl,hb1,hc1⟩
   ·rw [h0] at hlt; simp at hlt
   have c1:=(hc1 k hlt).1
   have HN1:=Lib.hid (hc1 k hlt).2
   have HL1:=Lib.hid (HCL.out k hlt)
   have HY:Hid ((C.getD k Ls.zero).L=m.L→m.L ∈ mL C):=Lib.hid (fun h=>mem_yes hlt h)
   have HSX:Hid ((C.getD k Ls.zero).L ≠ m.L→∀ j,j < k + 1→(C.getD j Ls.zero).L ≠ m.L):=Lib.hid (fun h j hj=>by
     by_cases e:j=k
     ·rw [e]; exact h
     ·exact HS.out j (by omega))
   clear hc1 HXw
   generalize C.getD k Ls.zero=x at *
   have HSI:=Lib.hid (has1_l x m g wr HN1.out HMw.out HL1.out HMM.out HGw.out)
   by_cases hxy:x.L=m.L
   ·have HSY:=Lib.hid (HY.out hxy)
    rw [show decide (x.L=m.L)=true by simp [hxy]] at HSI
    clear HSX hxy HY
    go_wp2_with fail
    refine HSI.out.mono ?_
    rintro e w' ⟨rfl,n,rfl⟩
    go_wp2_with fail
    go_ret
    exact ⟨k,rfl,by omega,by omega,⟨fun _=>HSY.out,fun _=>by omega⟩,q + n,by rw [hwr.out]; exact drewN_drewN w q n⟩
   ·have HSY:=Lib.hid (HSX.out hxy)
    rw [show decide (x.L=m.L)=false by simp [hxy]] at HSI
    clear HSX hxy HY
    go_wp2_with fail
    refine HSI.out.mono ?_
    rintro e w' ⟨rfl,n,rfl⟩
    go_wp2_with fail
    go_roundw
    case rel=>exact ⟨k + 1,q + n,by omega,by go_num,HSY,Lib.hid (by rw [hwr.out]; exact drewN_drewN w q n)⟩
    case measure=>simp [intOf]; omega
  ·have hkm:k=C.length:=by omega
   have d1:decide ((k:Int) < (C.length:Int))=false:=by simp; omega
   go_wp2_with fail
   go_ret
   have hno:=mem_no (hkm ▸ HS.out)
   exact ⟨-1,rfl,by omega,by omega,⟨fun h=>by omega,fun h=>absurd h hno⟩,q,hwr.out⟩
set_option maxRecDepth 20000 in
set_option maxHeartbeats 1600000 in
theorem containsF_l (a:Option Addr) (C:List Ls) (c:Nat) (m:Ls) (g:Nat) (w:World) (hx:LsIn w a C) (hm:NsIn w m.a m.L) (hl:C.length≤1000000) (hcl:∀ q,q < C.length→(C.getD q Ls.zero).L.length≤1000000) (hml:m.L.length≤1000000) (hg:w.cell? ⟨g,0,none⟩=some m.v) :
  Calls Try.prog 28 #[.slice a C.length c,.func (.func 29) #[] #[.pointer (some ⟨g,0,none⟩)]] w fun e w'=>e=.returned (.bool (decide (m.L ∈ mL C)))∧∃ q,w'=w.drewN q:=by
 have HI:=Lib.hid (index_l a C c m g w hx hm hl hcl hml hg)
 clear hx hm hcl hml hg
 obtain ⟨R,hR⟩:∃ R,R=decide (m.L ∈ mL C):=⟨_,rfl⟩
 rw [← hR]
 have HR:=Lib.hid hR
 clear hR
 go_enter Try.func28,Try.ntmps28
 go_wp2_with fail
 refine HI.out.mono ?_
 rintro e w' ⟨r,rfl,h1,h2,h3,q,rfl⟩
 have e1:R=decide (r ≥ 0):=by
  rw [HR.out]
  by_cases h:0≤r
  ·simp [h,h3.1 h]
  ·have:m.L ∉ mL C:=fun g=>h (h3.2 g)
   simp [h,this]
 clear HR h3 HI
 subst e1
 go_wp2_with fail
 go_ret
 exact ⟨rfl,q,rfl⟩
set_option maxRecDepth 20000 in
set_option maxHeartbeats 1600000 in
theorem has_l (a:Option Addr) (C:List Ls) (c:Nat) (m:Ls) (w:World) (hx:LsIn w a C) (hm:NsIn w m.a m.L) (hl:C.length≤1000000) (hcl:∀ q,q < C.length→(C.getD q Ls.zero).L.length≤1000000) (hml:m.L.length≤1000000) :
  Calls Try.prog 16 #[.slice a C.length c,m.v] w fun e w'=>e=.returned (.bool (decide (m.L ∈ mL C)))∧Below w.heap.size w w':=by
 have HB:Hid (Below w.heap.size w (w.alloc (Obj.cells #[m.v] 22 (0,0)))):=Lib.hid ((Below.refl _ _).alloc (Nat.le_refl _) _)
 have HCF:=Lib.hid (containsF_l a C c m w.heap.size (w.alloc (Obj.cells #[m.v] 22 (0,0))) (hx.next HB.out) (hm.next HB.out) hl hcl hml (by rw [World.cell?_alloc_mark]; rfl))
 clear hx hm hcl hml
 obtain ⟨R,hR⟩:∃ R,R=decide (m.L ∈ mL C):=⟨_,rfl⟩
 rw [← hR] at HCF ⊢
 obtain ⟨W1,hW1⟩:∃ W1,W1=w.alloc (Obj.cells #[m.v] 22 (0,0)):=⟨_,rfl⟩
 rw [← hW1] at HCF HB
 obtain ⟨ma,r,mc⟩:=m
 unfold Ls.v at hW1 ⊢
 dsimp only at hW1 ⊢
 clear hR
 go_enter Try.func16,Try.ntmps16
 go_wp2_with fail
 rw [← hW1]
 refine HCF.out.mono ?_
 rintro e w' ⟨rfl,q,rfl⟩
 go_wp2_with fail
 go_ret
 exact ⟨rfl,by rw [← hW1]; exact below_drewN HB.out q⟩
end Go.Proofs.Yteghpophcnehgaa
namespace Go.Proofs.Yteghpophcnehgaa
open Go.RowKit Mem
namespace Mem
def Asc (D:List Ls):Prop:=∀ i j,i < j→j < D.length→¬ Lt (D.getD j Ls.zero).L (D.getD i Ls.zero).L
def BsSays (R:Bool) (w:World) (e:Ending) (w':World):Prop:=∃ r:Int,e=.returned (.tuple #[.int .i64 r,.bool R])∧∃ q,w'=w.drewN q
theorem lt_nlt {a b c:List Int} (h:¬ Lt b a) (g:Lt b c):Lt a c:=by
 rcases tri a b with h1 | h1 | h1
 ·exact lt_trans h1 g
 ·rw [h1]; exact g
 ·exact absurd h1 h
def Walls (D:List Ls) (L:List Int) (i j:Nat):Prop:=(∀ q,q < i→Lt (D.getD q Ls.zero).L L)∧∀ q,j≤q→q < D.length→¬ Lt (D.getD q Ls.zero).L L
theorem walls_up {D:List Ls} {L:List Int} {i j h:Nat} (hs:Asc D) (w:Walls D L i j) (hh:h < D.length) (hl:Lt (D.getD h Ls.zero).L L):Walls D L (h + 1) j:=by
 refine ⟨fun q hq=>?_,w.2⟩
 by_cases e:q=h
 ·rw [e]; exact hl
 ·exact lt_nlt (hs q h (by omega) hh) hl
theorem walls_down {D:List Ls} {L:List Int} {i j h:Nat} (hs:Asc D) (w:Walls D L i j) (hl:¬ Lt (D.getD h Ls.zero).L L):Walls D L i h:=by
 refine ⟨w.1,fun q hq hq2=>?_⟩
 by_cases e:q=h
 ·rw [e]; exact hl
 ·intro g
  exact hl (lt_nlt (hs h q (by omega) hq2) g)
theorem walls_yes {D:List Ls} {L:List Int} {i:Nat} (hi:i < D.length) (e:(D.getD i Ls.zero).L=L):true=decide (L ∈ mL D):=by
 have:=mem_yes hi e
 simp [this]
theorem walls_no {D:List Ls} {L:List Int} {i:Nat} (hs:Asc D) (w:Walls D L i i) (e:i < D.length→(D.getD i Ls.zero).L ≠ L):false=decide (L ∈ mL D):=by
 have:L ∉ mL D:=mem_no fun j hj g=>by
  rcases Nat.lt_trichotomy j i with h | h | h
  ·have:=w.1 j h
   rw [g] at this
   exact lt_irrefl _ this
  ·rw [h] at g hj
   exact e hj g
  ·have h1:=hs i j h hj
   have h2:=w.2 i (Nat.le_refl _) (by omega)
   rw [g] at h1
   rcases tri (D.getD i Ls.zero).L L with h3 | h3 | h3
   ·exact h2 h3
   ·exact e (by omega) h3
   ·exact h1 h3
 simp [this]
end Mem
set_option maxRecDepth 20000 in
set_option maxHeartbeats 3200000 in
theorem bsearch_l (a:Option Addr) (D:List Ls) (c:Nat) (m:Ls) (w:World) (hx:LsIn w a D) (hm:NsIn w m.a m.L) (hs:Asc D) (hl:D.length≤1000000) (hcl:∀ q,q < D.length→(D.getD q Ls.zero).L.length≤1000000) (hml:m.L.length≤1000000) :
  Calls Try.prog 30 #[.slice a D.length c,m.v,.func (.func 26) #[] #[]] w (BsSays (decide (m.L ∈ mL D)) w):=by
 obtain ⟨R,hR⟩:∃ R,R=decide (m.L ∈ mL D):=⟨_,rfl⟩
 rw [← hR]
 have HR:=Lib.hid hR
 have HX:=Lib.hid hx
 have HM:=Lib.hid hm
 have HS:=Lib.hid hs
 have HCL:=Lib.hid hcl
 have HMM:=Lib.hid hml
 have HN:Hid (D.length=D.length):=Lib.hid rfl
 obtain ⟨n,hn⟩:∃ n,n=D.length:=⟨_,rfl⟩
 rw [← hn] at hl ⊢
 have HNN:=Lib.hid hn
 obtain ⟨mv,hmv⟩:∃ mv,mv=m.v:=⟨_,rfl⟩
 rw [← hmv]
 have HMV:=Lib.hid hmv
 clear hx hm hcl hml hs hR hn hmv HN
 go_enter Try.func30,Try.ntmps30
 go_wp2_with fail
 go_loopw [9,10] (fun i j wr=>∃ k h q:Nat,k≤h∧h≤n∧i=.int .i64 k∧j=.int .i64 h∧Hid (Walls D m.L k h)∧Hid (wr=w.drewN q)) (fun i j _=>(intOf j).toNat - (intOf i).toNat)
 case atStart=>exact ⟨0,n,0,Nat.zero_le _,Nat.le_refl _,rfl,rfl,Lib.hid ⟨fun q hq=>absurd hq (by omega),fun q h1 h2=>absurd h2 (by have:=HNN.out; omega)⟩,Lib.hid rfl⟩
 case round=>
  obtain ⟨k,h,q,hkh,hh,rfl,rfl,HW,hwr⟩:=hrel
  by_cases hlt:k < h
  ·have d1:decide ((k:Int) < (h:Int))=true:=by simp; omega
   obtain ⟨p,hp⟩:∃ p,p=(k + h) / 2:=⟨_,rfl⟩
   have p1:k≤p:=by omega
   have p2:p < h:=by omega
   have p3:p < D.length:=by have:=HNN.out; omega
   have HXw:Hid (LsIn wr a D):=Lib.hid (by rw [hwr.out]; exact HX.out.next (below_drewN (Below.refl _ _) q))
   have HMw:Hid (NsIn wr m.a m.L):=Lib.hid (by rw [hwr.out]; exact ns_drewN HM.out q)
   rcases HXw.out with h0 | ⟨b1,o1,rfl,hb1,hc1⟩
   ·rw [h0] at p3; simp at p3
   have c1:=(hc1 p p3).1
   have HN1:=Lib.hid (hc1 p p3).2
   have HL1:=Lib.hid (HCL.out p p3)
   have HUP:=Lib.hid (fun g=>walls_up HS.out HW.out p3 g)
   have HDN:=Lib.hid (fun g=>walls_down (h:=p) HS.out HW.out g)
   clear hc1 HXw
   generalize D.getD p Ls.zero=x at *
   have HC:=Lib.hid (compare_l x m wr HN1.out HMw.out HL1.out HMM.out)
   rw [← HMV.out] at HC
   have HLT:Hid (Lt x.L m.L ↔ cmpL x.L m.L < 0):=Lib.hid Iff.rfl
   obtain ⟨xa,l,xc⟩:=x
   unfold Ls.v at HC c1
   dsimp only at HC c1 HLT HUP HDN
   subst hp
   by_cases hz:cmpL l m.L < 0
   ·have HWW:=Lib.hid (HUP.out (HLT.out.2 hz))
    generalize cmpL l m.L=z at *
    have d2:decide (z < 0)=true:=by simp [hz]
    clear HUP HDN HLT HN1 HL1 HMw
    go_wp2_with fail
    refine HC.out.mono ?_
    rintro e w' ⟨rfl,t,rfl⟩
    go_wp2_with fail
    go_roundw
    case rel=>exact ⟨(k + h) / 2 + 1,h,q + t,by omega,by omega,by go_num,rfl,HWW,Lib.hid (by rw [hwr.out]; exact drewN_drewN w q t)⟩
    case measure=>simp [intOf]; omega
   ·have HWW:=Lib.hid (HDN.out (fun g=>hz (HLT.out.1 g)))
    generalize cmpL l m.L=z at *
    have d2:decide (z < 0)=false:=by simp [hz]
    clear HUP HDN HLT HN1 HL1 HMw
    go_wp2_with fail
    refine HC.out.mono ?_
    rintro e w' ⟨rfl,t,rfl⟩
    go_wp2_with fail
    go_roundw
    case rel=>exact ⟨k,(k + h) / 2,q + t,by omega,by omega,rfl,by go_num,HWW,Lib.hid (by rw [hwr.out]; exact drewN_drewN w q t)⟩
    case measure=>simp [intOf]; omega
  ·obtain rfl:h=k:=by omega
   have d1:decide ((h:Int) < (h:Int))=false:=by simp
   have HNO:=Lib.hid (fun g=>walls_no HS.out HW.out g)
   have HYE:=Lib.hid (fun (i:h < D.length) g=>walls_yes (L:=m.L) i g)
   by_cases hn:h < n
   ·have d2:decide ((h:Int) < (n:Int))=true:=by simp; omega
    have p3:h < D.length:=by have:=HNN.out; omega
    have i1:(h:Int) < (n:Int):=by omega
    have HXw:Hid (LsIn wr a D):=Lib.hid (by rw [hwr.out]; exact HX.out.next (below_drewN (Below.refl _ _) q))
    have HMw:Hid (NsIn wr m.a m.L):=Lib.hid (by rw [hwr.out]; exact ns_drewN HM.out q)
    rcases HXw.out with h0 | ⟨b1,o1,rfl,hb1,hc1⟩
    ·rw [h0] at p3; simp at p3
    have c1:=(hc1 h p3).1
    have HN1:=Lib.hid (hc1 h p3).2
    have HL1:=Lib.hid (HCL.out h p3)
    have HNO:=Lib.hid (fun g=>HNO.out (fun _=>g))
    have HYE:=Lib.hid (HYE.out p3)
    clear hc1 HXw
    generalize D.getD h Ls.zero=x at *
    have HC:=Lib.hid (compare_l x m wr HN1.out HMw.out HL1.out HMM.out)
    rw [← HMV.out] at HC
    obtain ⟨xa,l,xc⟩:=x
    unfold Ls.v at HC c1
    dsimp only at HC c1 HNO HYE
    by_cases hz:l=m.L
    ·have e1:=HR.out.trans (HYE.out hz).symm
     have e0:cmpL l m.L=0:=by rw [hz]; exact cmpL_self _
     rw [e0] at HC
     clear HNO HYE HR hz e0 HN1 HL1 HMw
     subst e1
     go_wp2_with fail
     refine HC.out.mono ?_
     rintro e w' ⟨rfl,t,rfl⟩
     go_wp2_with fail
     go_returns
     exact ⟨_,rfl,q + t,by rw [hwr.out]; exact drewN_drewN w q t⟩
    ·have e1:=HR.out.trans (HNO.out hz).symm
     have e0:(cmpL l m.L == 0)=false:=by
      have:cmpL l m.L ≠ 0:=fun g=>hz (cmpL_eq g)
      simpa using this
     generalize cmpL l m.L=z at *
     clear HNO HYE HR hz HN1 HL1 HMw
     subst e1
     go_wp2_with fail
     refine HC.out.mono ?_
     rintro e w' ⟨rfl,t,rfl⟩
     go_wp2_with fail
     go_returns
     exact ⟨_,rfl,q + t,by rw [hwr.out]; exact drewN_drewN w q t⟩
   ·have d2:decide ((h:Int) < (n:Int))=false:=by simp; omega
    have e1:=HR.out.trans (HNO.out (fun g=>absurd g (by have:=HNN.out; omega))).symm
    clear HNO HYE HR
    subst e1
    go_wp2_with fail
    go_returns
    exact ⟨_,rfl,q,hwr.out⟩
end Go.Proofs.Yteghpophcnehgaa
namespace Go.Proofs.Yteghpophcnehgaa
open Go.RowKit Mem
namespace Mem
def AllIn (k:Nat) (C:List Ls) (M:List (List Int)):Prop:=∀ j,j < k→(C.getD j Ls.zero).L ∈ M
theorem all_in {C:List Ls} {M:List (List Int)} (h:AllIn C.length C M):true=decide (∀ L ∈ mL C,L ∈ M):=by
 have:∀ L ∈ mL C,L ∈ M:=fun L hL=>by
  unfold mL at hL
  rw [List.mem_map] at hL
  obtain ⟨x,hx,rfl⟩:=hL
  obtain ⟨i,hi,rfl⟩:=List.getElem_of_mem hx
  have:=h i hi
  rwa [List.getD_eq_getElem?_getD,List.getElem?_eq_getElem hi] at this
 symm
 rw [decide_eq_true_iff]
 exact this
theorem not_in {C:List Ls} {M:List (List Int)} {k:Nat} (hk:k < C.length) (h:(C.getD k Ls.zero).L ∉ M):false=decide (∀ L ∈ mL C,L ∈ M):=by
 have:¬ ∀ L ∈ mL C,L ∈ M:=fun g=>h (g _ (mem_yes hk rfl))
 symm
 rw [decide_eq_false_iff_not]
 exact this
theorem mL_perm {S D:List Ls} (h:S.Perm D) (L:List Int):L ∈ mL S ↔ L ∈ mL D:=(h.map Ls.L).mem_iff
end Mem
set_option maxRecDepth 20000 in
set_option maxHeartbeats 6400000 in
theorem in_l (HS:SortC) (HN:SortN) (a b:Option Addr) (C D:List Ls) (c d:Nat) (w:World) (hx:LsIn w a C) (hy:LsIn w b D) (hl:C.length≤1000000) (hcl:∀ q,q < C.length→(C.getD q Ls.zero).L.length≤1000000)
  (hr:D.length≤1000000) (hdl:∀ q,q < D.length→(D.getD q Ls.zero).L.length≤1000000) (hd0:b=none→D=[]∧d=0) :
  Calls Try.prog 17 #[.slice a C.length c,.slice b D.length d] w fun e w'=>e=.returned (.bool (decide (∀ L ∈ mL C,L ∈ mL D)))∧Below w.heap.size w w':=by
 obtain ⟨R,hR⟩:∃ R,R=decide (∀ L ∈ mL C,L ∈ mL D):=⟨_,rfl⟩
 rw [← hR]
 have HR:=Lib.hid hR
 have HCL:=Lib.hid (cloneL_l b D d w hy hr hd0)
 have HSO:=Lib.hid (fun w1 v h ho=>sort_own HS HN D w w1 b v hy hr hdl h ho)
 have HNM:=Lib.hid (ns_mem hy)
 have HLL:=Lib.hid hdl
 have HX:=Lib.hid hx
 have HCC:=Lib.hid hcl
 clear hx hy hcl hdl hd0 hR
 go_enter Try.func17,Try.ntmps17
 go_wp2_with fail
 refine HCL.out.mono ?_
 rintro e w1 ⟨v,rfl,ho,hb1⟩
 have HO:=Lib.hid ho
 have HB1:=Lib.hid hb1
 clear ho hb1
 go_wp2_with fail
 refine (HSO.out w1 v HB1.out HO.out).mono ?_
 rintro e w2 ⟨rfl,S,hp,hsr,ho2,hb2⟩
 have hSn:S.length=D.length:=hp.length_eq
 have hs1000:S.length≤1000000:=by omega
 have HB2:=Lib.hid hb2
 have HX2:=Lib.hid (HX.out.next hb2)
 have HNS:=Lib.hid (fun x hx=>(HNM.out x (hp.mem_iff.1 hx)).next hb2)
 have HLS:=Lib.hid (fun q (hq:q < S.length)=>(by
  obtain ⟨i,hi,e⟩:=List.getElem_of_mem (hp.mem_iff.1 (getD_mem hq))
  have:=HLL.out i hi
  rwa [List.getD_eq_getElem?_getD,List.getElem?_eq_getElem hi,Option.getD_some,e] at this:(S.getD q Ls.zero).L.length≤1000000))
 obtain ⟨va,vc,rfl,hva,hva0⟩:=own_ls ho2 hSn.symm HNS.out
 have HBS:=Lib.hid (fun (m:Ls) n (hm:NsIn (w2.drewN n) m.a m.L) (hml:m.L.length≤1000000)=>bsearch_l va S vc m (w2.drewN n) (hva.next (below_drewN (Below.refl _ _) n)) hm hsr hs1000 HLS.out hml)
 have HMM:=Lib.hid (fun L=>mL_perm hp L)
 clear hp hsr hb2 ho2 HO hva hva0 HSO HCL HNM HLL HNS HLS HX
 rw [← hSn]
 clear hSn
 go_wp2_with fail
 go_loopw [16] (fun x wr=>∃ k q:Nat,k≤C.length∧x=.int .i64 k∧Hid (AllIn k C (mL S))∧Hid (wr=w2.drewN q)) (fun x _=>C.length - (intOf x).toNat)
 case atStart=>exact ⟨0,0,Nat.zero_le _,rfl,Lib.hid (fun j hj=>absurd hj (by omega)),Lib.hid rfl⟩
 case round=>
  obtain ⟨k,q,hk,rfl,HAL,hwr⟩:=hrel
  by_cases hlt:k < C.length
  ·have d1:decide ((k:Int) < (C.length:Int))=true:=by simp; omega
   have i1:(k:Int) < (C.length:Int):=by omega
   have HXw:Hid (LsIn wr a C):=Lib.hid (by rw [hwr.out]; exact HX2.out.next (below_drewN (Below.refl _ _) q))
   rcases HXw.out with h0 | ⟨b1,o1,rfl,hb1,hc1⟩
   ·rw [h0] at hlt; simp at hlt
   have c1:=(hc1 k hlt).1
   have HN1:=Lib.hid (hc1 k hlt).2
   have HL1:=Lib.hid (HCC.out k hlt)
   have HSX:Hid ((C.getD k Ls.zero).L ∈ mL S→AllIn (k + 1) C (mL S)):=Lib.hid (fun h j hj=>by
     by_cases e:j=k
     ·rw [e]; exact h
     ·exact HAL.out j (by omega))
   have HNO:Hid ((C.getD k Ls.zero).L ∉ mL S→R=false):=Lib.hid (fun h=>HR.out.trans (not_in hlt (fun g=>h ((HMM.out _).2 g))).symm)
   clear hc1 HXw
   generalize C.getD k Ls.zero=x at *
   have HSI:=Lib.hid (HBS.out x q (hwr.out ▸ HN1.out) HL1.out)
   rw [← hwr.out] at HSI
   obtain ⟨xa,l,xc⟩:=x
   unfold Ls.v at HSI c1
   dsimp only at HSI c1 HSX HNO
   by_cases hxy:l ∈ mL S
   ·have HSY:=Lib.hid (HSX.out hxy)
    rw [show decide (l ∈ mL S)=true by simp [hxy]] at HSI
    clear HSX HNO hxy HN1 HL1
    go_wp2_with fail
    refine HSI.out.mono ?_
    rintro e w' ⟨r,rfl,n,rfl⟩
    go_wp2_with fail
    go_roundw
    case rel=>exact ⟨k + 1,q + n,by omega,by go_num,HSY,Lib.hid (by rw [hwr.out]; exact drewN_drewN w2 q n)⟩
    case measure=>simp [intOf]; omega
   ·have e1:=HNO.out hxy
    rw [show decide (l ∈ mL S)=false by simp [hxy]] at HSI
    clear HSX HNO hxy HN1 HL1 HR
    subst e1
    go_wp2_with fail
    refine HSI.out.mono ?_
    rintro e w' ⟨r,rfl,n,rfl⟩
    go_wp2_with fail
    go_ret
    exact ⟨rfl,by rw [hwr.out]; exact below_drewN (below_drewN HB2.out q) n⟩
  ·have hkm:k=C.length:=by omega
   have d1:decide ((k:Int) < (C.length:Int))=false:=by simp; omega
   have e1:=HR.out.trans (all_in (fun j hj=>(HMM.out _).1 (HAL.out j (by omega)))).symm
   clear HR
   subst e1
   go_wp2_with fail
   go_ret
   exact ⟨rfl,by rw [hwr.out]; exact below_drewN HB2.out q⟩
end Go.Proofs.Yteghpophcnehgaa
namespace Go.Proofs.Yteghpophcnehgaa
open Go.RowKit Mem
namespace Mem
theorem sort3 {S : List Ls} (h : (S.map Ls.L).Perm [[2], [1], [2]]) (hs : ∀ i j, i < j → j < S.length → ¬ Lt (S.getD j Ls.zero).L (S.getD i Ls.zero).L) : Dd S S.length = [[1], [2]] := by
  have hl : S.length = 3 := by have := h.length_eq; simpa using this
  obtain ⟨a, b, c, rfl⟩ : ∃ a b c, S = [a, b, c] := by
    match S, hl with
    | [a, b, c], _ => exact ⟨a, b, c, rfl⟩
  have hm : ∀ x, x ∈ [a.L, b.L, c.L] → x = [1] ∨ x = [2] := fun x hx => by
    have := h.mem_iff.1 (show x ∈ List.map Ls.L [a, b, c] from hx)
    simp only [List.mem_cons, List.not_mem_nil, or_false] at this
    rcases this with r | r | r
    · exact .inr r
    · exact .inl r
    · exact .inr r
  have hc := h.count_eq [1]
  have h01 : ¬ Lt b.L a.L := hs 0 1 (by omega) (by simp)
  have h12 : ¬ Lt c.L b.L := hs 1 2 (by omega) (by simp)
  have lt12 : Lt [1] [2] := by unfold Lt; decide
  have ha := hm a.L (by simp)
  have hb := hm b.L (by simp)
  have hcc := hm c.L (by simp)
  simp only [List.map_cons, List.map_nil] at hc
  rcases ha with ha | ha <;> rcases hb with hb | hb <;> rcases hcc with hcc | hcc <;> rw [ha, hb, hcc] at hc <;> first
    | (exfalso; revert hc; decide)
    | (exfalso; rw [ha, hb] at h01; exact h01 lt12)
    | (exfalso; rw [hb, hcc] at h12; exact h12 lt12)
    | (have e1 : cmpL [1] [2] ≠ 0 := by decide
       have e2 : cmpL [2] [2] = 0 := by decide
       simp [Dd, ha, hb, hcc, e1, e2])
end Mem
end Go.Proofs.Yteghpophcnehgaa
