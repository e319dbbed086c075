/-
  mem.Sort: lists in order, each once. Conditions: the lists in memory; slices.SortFunc's contract.
-/
import Derived.Test.YteghpophcnehgaaMzr
import Derived.Deep.AppendLies
namespace Go.Proofs.Yteghpophcnehgaa
open Go.RowKit Mem
namespace Mem
def Dd (S:List Ls):Nat→List (List Int)
 | 0=>[]
 | k + 1=>if k=0 ∨ cmpL (S.getD (k - 1) Ls.zero).L (S.getD k Ls.zero).L ≠ 0 then Dd S k ++ [(S.getD k Ls.zero).L] else Dd S k
theorem Dd_len (S:List Ls):∀ k,(Dd S k).length≤k∧(0 < k→0 < (Dd S k).length)
 | 0=>⟨Nat.le_refl _,fun h=>absurd h (by omega)⟩
 | k + 1=>by
  have ih:=Dd_len S k
  unfold Dd
  split
  ·simp; omega
  ·rename_i h
   refine ⟨by omega,fun _=>ih.2 ?_⟩
   rcases Nat.eq_zero_or_pos k with e | e
   ·exact absurd (.inl e) h
   ·exact e
def Far (v:Value) (w:World) (x:Ls):Prop:=x.L=[] ∨ ∃ b o,x.a=some ⟨b,o,none⟩∧v.ownBlock ≠ some b∧b < w.heap.size∧∀ q,q < x.L.length→w.cell? ⟨b,o + q,none⟩=some (.int .i64 (x.L.getD q 0))
theorem Far.ns {v:Value} {w:World} {x:Ls} (h:Far v w x):NsIn w x.a x.L:=by
 rcases h with h | ⟨b,o,h1,_,h2,h3⟩
 ·exact .inl h
 ·exact .inr ⟨b,o,h1,h2,h3⟩
theorem Far.next {v:Value} {w w':World} {x:Ls} (h:Far v w x) (hb:Below w.heap.size w w'):Far v w' x:=by
 rcases h with h | ⟨b,o,h1,h0,h2,h3⟩
 ·exact .inl h
 ·exact .inr ⟨b,o,h1,h0,Nat.lt_of_lt_of_le h2 hb.size,fun q hq=>cell_next (h3 q hq) hb⟩
theorem Far.grown {v:Value} {w w':World} {x:Ls} {g n c:Nat} (h:Far v w x) (hg:w.grownBy w' v.ownBlock) (ha:v.ownBlock=some g ∨ g=w.heap.size):Far (.slice (some ⟨g,0,none⟩) n c) w' x:=by
 rcases h with h | ⟨b,o,h1,h0,h2,h3⟩
 ·exact .inl h
 ·refine .inr ⟨b,o,h1,fun e=>?_,Nat.lt_of_lt_of_le h2 hg.size,fun q hq=>?_⟩
  ·have e':g=b:=by cases e; rfl
   subst e'
   rcases ha with ha | ha
   ·exact h0 ha
   ·omega
  ·rw [hg.cell_far _ h2 (fun e=>h0 e.symm)]
   exact h3 q hq
theorem far_of {v:Value} {w:World} {a:Option Addr} {L:List Int} {c:Nat} (h:NsIn w a L) (hn:∀ b o,a=some ⟨b,o,none⟩→L ≠ []→v.ownBlock ≠ some b):Far v w ⟨a,L,c⟩:=by
 by_cases e:L=[]
 ·exact .inl e
 ·rcases h with h | ⟨b,o,h1,h2,h3⟩
  ·exact absurd h e
  ·exact .inr ⟨b,o,h1,hn b o h1 e,h2,h3⟩
def OnceOk (S:List Ls) (k:Nat) (base:Nat) (w:World) (v:Value):Prop:=∃ D:List Ls,D.map Ls.L=Dd S k∧w.ownsRow base 22 1 v D.length (lvs D)∧∀ x ∈ D,Far v w x
theorem own_ls {w:World} {base:Nat} {v:Value} {S:List Ls} {n:Nat} (h:w.ownsRow base 22 1 v n (lvs S)) (hn:n=S.length) (hx:∀ x ∈ S,NsIn w x.a x.L):∃ a c,v=.slice a n c∧LsIn w a S∧(a=none→S=[]∧c=0):=by
 have h':=h
 obtain ⟨_,⟨rfl,h0⟩ | ⟨g,c,cur,rfl,h2,h3,_⟩⟩:=h
 ·have:S=[]:=List.length_eq_zero_iff.1 (by omega)
  subst this
  exact ⟨none,0,by rw [h0],.inl rfl,fun _=>⟨rfl,rfl⟩⟩
 ·refine ⟨_,c,rfl,.inr ⟨g,0,rfl,(Array.getElem?_eq_some_iff.1 h3).1,fun q hq=>⟨(own_cell h' q _ ?_).1,hx _ ?_⟩⟩,fun h=>by cases h⟩
  ·unfold lvs
   rw [List.getElem?_map,List.getD_eq_getElem?_getD,List.getElem?_eq_getElem hq]
   rfl
  ·rw [List.getD_eq_getElem?_getD,List.getElem?_eq_getElem hq]
   exact List.getElem_mem _
theorem ns_mem {w:World} {a:Option Addr} {C:List Ls} (h:LsIn w a C):∀ x ∈ C,NsIn w x.a x.L:=by
 intro x hx
 rcases h with rfl | ⟨b,o,_,_,h3⟩
 ·cases hx
 ·obtain ⟨i,hi,rfl⟩:=List.getElem_of_mem hx
  have:=(h3 i hi).2
  rwa [List.getD_eq_getElem?_getD,List.getElem?_eq_getElem hi] at this
end Mem
set_option maxRecDepth 20000 in
set_option maxHeartbeats 6400000 in
theorem sort_l (HS:SortC) (HN:SortN) (a:Option Addr) (C:List Ls) (c:Nat) (w:World) (hin:LsIn w a C) (hc:C.length≤1000) (hl:∀ q,q < C.length→(C.getD q Ls.zero).L.length≤1000000) (hc0:a=none→C=[]∧c=0) :
  Calls Try.prog 15 #[.slice a C.length c] w fun e w'=>∃ (D:List Ls) (a':Option Addr) (c':Nat) (S:List Ls),e=.returned (.slice a' D.length c')∧LsIn w' a' D∧(a'=none→D=[]∧c'=0)∧D.map Ls.L=Dd S S.length∧S.Perm C∧(∀ i j,i < j→j < S.length→¬ Lt (S.getD j Ls.zero).L (S.getD i Ls.zero).L)∧Below w.heap.size w w':=by
 have HCL:=Lib.hid (cloneL_l a C c w hin (by omega) hc0)
 have HSO:=Lib.hid (fun w1 v h ho=>sort_own HS HN C w w1 a v hin (by omega) hl h ho)
 have HNM:=Lib.hid (ns_mem hin)
 have HLL:=Lib.hid hl
 clear hin hl hc0
 obtain ⟨i0,hi,hz0,hz1,hz2⟩:=info_parts info23
 go_enter Try.func15,Try.ntmps15
 go_wp2_with fail
 refine HCL.out.mono ?_
 rintro e w1 ⟨v,rfl,ho,hb1⟩
 have HO:=Lib.hid ho
 have HB1:=Lib.hid hb1
 clear ho hb1
 go_wp2_with fail
 refine (HSO.out w1 v HB1.out HO.out).mono ?_
 rintro e w2 ⟨rfl,S,hp,hsr,ho2,hb2⟩
 have hSn:S.length=C.length:=hp.length_eq
 have hs1000:S.length≤1000:=by omega
 have HP:=Lib.hid hp
 have HSR:=Lib.hid hsr
 have HB2:=Lib.hid hb2
 have HNS:=Lib.hid (fun x hx=>(HNM.out x (hp.mem_iff.1 hx)).next hb2)
 have HLS:=Lib.hid (fun x (hx:x ∈ S)=>(by
  obtain ⟨i,hi,rfl⟩:=List.getElem_of_mem (hp.mem_iff.1 hx)
  have:=HLL.out i hi
  rwa [List.getD_eq_getElem?_getD,List.getElem?_eq_getElem hi] at this:x.L.length≤1000000))
 obtain ⟨va,vc,rfl,hva,hva0⟩:=own_ls ho2 hSn.symm HNS.out
 have HVA:=Lib.hid hva
 clear hp hsr hb2 ho2 HO hva hva0 HSO HCL HNM HLL
 rw [← hSn]
 clear hSn
 go_wp2_with fail
 go_loopw [13,4] (fun x v wr=>∃ k:Nat,k≤S.length∧x=.int .i64 k∧Hid (OnceOk S k w2.heap.size wr v)∧Hid (Below w2.heap.size w2 wr)) (fun x _ _=>S.length - (intOf x).toNat)
 case atStart=>exact ⟨0,Nat.zero_le _,rfl,Lib.hid ⟨[],rfl,⟨rfl,.inl ⟨rfl,rfl⟩⟩,fun x hx=>by cases hx⟩,Lib.hid (Below.refl _ _)⟩
 case round=>
  obtain ⟨k,hk,rfl,hon,hbe0⟩:=hrel
  obtain ⟨D,hD,hown,hDn⟩:=hon.out
  have hbe:=hbe0.out
  have HD:=Lib.hid hD
  have hDl:D.length≤k:=by
   have:=(Dd_len S k).1
   rw [← hD,List.length_map] at this
   exact this
  have HOWN:=Lib.hid hown
  have HDN:=Lib.hid hDn
  clear hon hD hown hDn hbe0
  by_cases hlt:k < S.length
  ·have hdk:decide ((k:Int) < (S.length:Int))=true:=by simp; omega
   have hki:(k:Int) < (S.length:Int):=by omega
   rcases HVA.out.next hbe with h0 | ⟨b,o,rfl,hbl,hcc⟩
   ·rw [h0] at hlt; simp at hlt
   have hmem:S.getD k Ls.zero ∈ S:=by
    rw [List.getD_eq_getElem?_getD,List.getElem?_eq_getElem hlt]
    exact List.getElem_mem _
   have c0:=(hcc k hlt).1
   have HMN:=Lib.hid (hcc k hlt).2
   have HML:=Lib.hid (HLS.out _ hmem)
   clear hmem
   by_cases hk0:k=0
   ·have e0:((k:Int) == 0)=true:=by simp [hk0]
    have HDD:Hid (Dd S (k + 1)=Dd S k ++ [(S.getD k Ls.zero).L]):=Lib.hid (by
     show (if (k=0 ∨ _) then _ else _)=_
     rw [if_pos (.inl hk0)])
    clear hcc hk0
    generalize S.getD k Ls.zero=m at *
    obtain ⟨W,hW⟩:∃ W,W=wr:=⟨_,rfl⟩
    have HBW:Hid (Below w2.heap.size w2 W):=hW ▸ hbe
    have HOW:Hid (W.ownsRow w2.heap.size 22 1 u4 D.length (lvs D)):=hW ▸ HOWN
    have HXW:Hid (∀ (x:Ls),x ∈ D→Far u4 W x):=hW ▸ HDN
    have HMW:Hid (NsIn W m.a m.L):=hW ▸ HMN
    subst hW
    clear HOWN HDN HMN
    go_wp2_with fail
    refine (clone_l m W HMW.out HML.out).mono ?_
    rintro e w5 ⟨a5,c5,rfl,hn5,hw5,hb5⟩
    have hsW:=HBW.out.size
    have hs5:w2.heap.size≤w5.heap.size:=by have:=hb5.size; omega
    have HB5:=Lib.hid (below_next HBW.out hb5 hsW)
    have HO5:=Lib.hid (own_next HOW.out hb5)
    have HX5:=Lib.hid (fun x hx=>(HXW.out x hx).next hb5)
    have HF5:Hid (Far u4 w5 ⟨a5,m.L,c5⟩):=Lib.hid (far_of hn5 (fun b o h1 h2 h3=>by
     have h4:=(HOW.out.lt b h3).2
     rcases hw5 with h5 | ⟨g,h5,h6⟩
     ·exact h2 h5
     ·rw [h5] at h1
      cases h1
      omega))
    clear hn5 hb5 hw5
    obtain ⟨w6,hw6⟩:∃ x,x=w5.alloc (Obj.cells #[.slice a5 m.L.length c5] 22 (0,0)):=⟨_,rfl⟩
    have HB6:Hid (Below w5.heap.size w5 w6):=Lib.hid (by rw [hw6]; exact (Below.refl _ _).alloc (Nat.le_refl _) _)
    have HO6:Hid (w6.ownsRow w2.heap.size 22 1 u4 D.length (lvs D)):=Lib.hid (by rw [hw6]; exact HO5.out.alloc _)
    have HW6:Hid (w6.heap[w5.heap.size]?=some (Obj.cells #[.slice a5 m.L.length c5] 22 (0,0))):=Lib.hid (by rw [hw6]; exact heap_alloc_new _ _)
    have hs6:w6.heap.size=w5.heap.size + 1:=by rw [hw6]; simp
    have HNW6:=Lib.hid (World.news_of_block (cs:=#[.slice a5 m.L.length c5]) (t:=22) (fr:=(0,0)) HW6.out)
    unfold Ls.v
    go_wp2_with (first
     | (at_builtin; rw [← hw6]; clear hw6; refine wpList_append_lies _ rfl (.tmp 30) (.tmp 33) 35 rfl w2.heap.size 22 i0 (.slice none 0 0) 1 24 Try.underlying35 hi hz0 hz1 hz2 rfl (by omega) u4 D.length (lvs D) rfl HO6.out ⟨w5.heap.size,0,none⟩ 1 1 [.slice a5 m.L.length c5] rfl rfl HNW6.out (by simp [Value.oneCell']) (by omega) (by unfold maxLen; omega) (by omega) (by omega) w6.heap.size rfl ?_; intro g7 q7 w7 hown1 hgrow1 hat1 hlt1; have HO7:=Lib.hid hown1; have HG7:=Lib.hid hgrow1; have HA7:=Lib.hid hat1; clear hown1 hgrow1 hat1 hlt1))
    have HB7:Hid (Below w2.heap.size w2 w7):=Lib.hid ((below_next HB5.out HB6.out hs5).grown HG7.out (by omega) (fun j hj=>(HO6.out.lt j hj).1))
    go_roundw
    case rel=>
     refine ⟨k + 1,by omega,by go_num,Lib.hid ⟨D ++ [⟨a5,m.L,c5⟩],?_,?_,?_⟩,HB7⟩
     ·rw [List.map_append,HD.out]; exact HDD.out.symm
     ·rw [List.length_append]
      unfold lvs
      rw [List.map_append]
      exact HO7.out
     ·intro x hx
      rcases List.mem_append.1 hx with hx | hx
      ·exact ((HX5.out x hx).next HB6.out).grown HG7.out HA7.out
      ·rw [List.mem_singleton.1 hx]
       exact (HF5.out.next HB6.out).grown HG7.out HA7.out
    case measure=>simp [intOf]; omega
   ·have e0:((k:Int) == 0)=false:=by simp [hk0]
    have c1:=(hcc (k - 1) (by omega)).1
    have n1:=(hcc (k - 1) (by omega)).2
    have hkm:((k:Int) - 1).toNat=k - 1:=by omega
    have hk1:(0:Int)≤(k:Int) - 1:=by omega
    have hk2:(k:Int) - 1 < (S.length:Int):=by omega
    have HN1:=Lib.hid n1
    have HPL:=Lib.hid (HLS.out (S.getD (k - 1) Ls.zero) (by
     rw [List.getD_eq_getElem?_getD,List.getElem?_eq_getElem (show k - 1 < S.length by omega)]
     exact List.getElem_mem _))
    have HDE:Hid (cmpL (S.getD (k - 1) Ls.zero).L (S.getD k Ls.zero).L ≠ 0→Dd S (k + 1)=Dd S k ++ [(S.getD k Ls.zero).L]):=Lib.hid (fun h=>by
     show (if (k=0 ∨ _) then _ else _)=_
     rw [if_pos (.inr h)])
    have HDZ:Hid (cmpL (S.getD (k - 1) Ls.zero).L (S.getD k Ls.zero).L=0→Dd S (k + 1)=Dd S k):=Lib.hid (fun h=>by
     show (if (k=0 ∨ _) then _ else _)=_
     rw [if_neg (fun e=>e.elim hk0 (fun e=>e h))])
    clear n1 hcc hk0
    generalize S.getD k Ls.zero=m at *
    generalize S.getD (k - 1) Ls.zero=p at *
    go_wp2_with fail
    have HCM:=Lib.hid (compare_l p m wr HN1.out HMN.out HPL.out HML.out)
    obtain ⟨z,hz⟩:∃ z,z=cmpL p.L m.L:=⟨_,rfl⟩
    rw [← hz] at HCM HDE HDZ
    clear hz
    refine HCM.out.mono ?_
    rintro e W ⟨rfl,q,hW⟩
    have HWW:Hid (Below wr.heap.size wr W):=Lib.hid (hW ▸ below_drewN (Below.refl _ _) q)
    have HBW:Hid (Below w2.heap.size w2 W):=Lib.hid (below_next hbe HWW.out hbe.size)
    have HOW:Hid (W.ownsRow w2.heap.size 22 1 u4 D.length (lvs D)):=Lib.hid (own_next HOWN.out HWW.out)
    have HXW:Hid (∀ (x:Ls),x ∈ D→Far u4 W x):=Lib.hid (fun x hx=>(HDN.out x hx).next HWW.out)
    have HMW:Hid (NsIn W m.a m.L):=Lib.hid (HMN.out.next HWW.out)
    clear hW HWW hbe HOWN HDN HMN HCM HN1 HPL c0 c1 hbl
    by_cases hz0:z=0
    ·have e1:(z != 0)=false:=by simp [hz0]
     have HDD:=Lib.hid (HDZ.out hz0)
     clear hz0 HDE HDZ
     go_wp2_with fail
     go_roundw
     case rel=>exact ⟨k + 1,by omega,by go_num,Lib.hid ⟨D,by rw [HD.out]; exact HDD.out.symm,HOW.out,HXW.out⟩,HBW⟩
     case measure=>simp [intOf]; omega
    ·have e1:(z != 0)=true:=by simp [hz0]
     have HDD:=Lib.hid (HDE.out hz0)
     clear hz0 HDE HDZ
     go_wp2_with fail
     refine (clone_l m W HMW.out HML.out).mono ?_
     rintro e w5 ⟨a5,c5,rfl,hn5,hw5,hb5⟩
     have hsW:=HBW.out.size
     have hs5:w2.heap.size≤w5.heap.size:=by have:=hb5.size; omega
     have HB5:=Lib.hid (below_next HBW.out hb5 hsW)
     have HO5:=Lib.hid (own_next HOW.out hb5)
     have HX5:=Lib.hid (fun x hx=>(HXW.out x hx).next hb5)
     have HF5:Hid (Far u4 w5 ⟨a5,m.L,c5⟩):=Lib.hid (far_of hn5 (fun b o h1 h2 h3=>by
      have h4:=(HOW.out.lt b h3).2
      rcases hw5 with h5 | ⟨g,h5,h6⟩
      ·exact h2 h5
      ·rw [h5] at h1
       cases h1
       omega))
     clear hn5 hb5 hw5
     obtain ⟨w6,hw6⟩:∃ x,x=w5.alloc (Obj.cells #[.slice a5 m.L.length c5] 22 (0,0)):=⟨_,rfl⟩
     have HB6:Hid (Below w5.heap.size w5 w6):=Lib.hid (by rw [hw6]; exact (Below.refl _ _).alloc (Nat.le_refl _) _)
     have HO6:Hid (w6.ownsRow w2.heap.size 22 1 u4 D.length (lvs D)):=Lib.hid (by rw [hw6]; exact HO5.out.alloc _)
     have HW6:Hid (w6.heap[w5.heap.size]?=some (Obj.cells #[.slice a5 m.L.length c5] 22 (0,0))):=Lib.hid (by rw [hw6]; exact heap_alloc_new _ _)
     have hs6:w6.heap.size=w5.heap.size + 1:=by rw [hw6]; simp
     have HNW6:=Lib.hid (World.news_of_block (cs:=#[.slice a5 m.L.length c5]) (t:=22) (fr:=(0,0)) HW6.out)
     unfold Ls.v
     go_wp2_with (first
      | (at_builtin; rw [← hw6]; clear hw6; refine wpList_append_lies _ rfl (.tmp 30) (.tmp 33) 35 rfl w2.heap.size 22 i0 (.slice none 0 0) 1 24 Try.underlying35 hi hz0 hz1 hz2 rfl (by omega) u4 D.length (lvs D) rfl HO6.out ⟨w5.heap.size,0,none⟩ 1 1 [.slice a5 m.L.length c5] rfl rfl HNW6.out (by simp [Value.oneCell']) (by omega) (by unfold maxLen; omega) (by omega) (by omega) w6.heap.size rfl ?_; intro g7 q7 w7 hown1 hgrow1 hat1 hlt1; have HO7:=Lib.hid hown1; have HG7:=Lib.hid hgrow1; have HA7:=Lib.hid hat1; clear hown1 hgrow1 hat1 hlt1))
     have HB7:Hid (Below w2.heap.size w2 w7):=Lib.hid ((below_next HB5.out HB6.out hs5).grown HG7.out (by omega) (fun j hj=>(HO6.out.lt j hj).1))
     go_roundw
     case rel=>
      refine ⟨k + 1,by omega,by go_num,Lib.hid ⟨D ++ [⟨a5,m.L,c5⟩],?_,?_,?_⟩,HB7⟩
      ·rw [List.map_append,HD.out]; exact HDD.out.symm
      ·rw [List.length_append]
       unfold lvs
       rw [List.map_append]
       exact HO7.out
      ·intro x hx
       rcases List.mem_append.1 hx with hx | hx
       ·exact ((HX5.out x hx).next HB6.out).grown HG7.out HA7.out
       ·rw [List.mem_singleton.1 hx]
        exact (HF5.out.next HB6.out).grown HG7.out HA7.out
     case measure=>simp [intOf]; omega
  ·have hkS:k=S.length:=by omega
   have hdk:decide ((k:Int) < (S.length:Int))=false:=by simp; omega
   have HBF:Hid (Below w.heap.size w wr):=Lib.hid (HB2.out.trans (hbe.mono HB2.out.size))
   have HFI:Hid (∃ (D:List Ls) (a':Option Addr) (c':Nat),u4=.slice a' D.length c'∧LsIn wr a' D∧(a'=none→D=[]∧c'=0)∧D.map Ls.L=Dd S S.length):=Lib.hid (by
    obtain ⟨a',c',h1,h2,h3⟩:=own_ls HOWN.out rfl (fun x hx=>(HDN.out x hx).ns)
    exact ⟨D,a',c',h1,h2,h3,by rw [HD.out,hkS]⟩)
   clear HOWN HDN hkS
   go_wp2_with fail
   go_ret
   obtain ⟨D',a',c',h1,h2,h3,h4⟩:=HFI.out
   exact ⟨D',a',c',S,by rw [h1]; rfl,h2,h3,h4,HP.out,HSR.out,HBF.out⟩
end Go.Proofs.Yteghpophcnehgaa
namespace Go.Proofs.Yteghpophcnehgaa
open Go.RowKit Mem
namespace Mem
theorem getD_mem {C:List Ls} {i:Nat} (h:i < C.length):C.getD i Ls.zero ∈ C:=by
 rw [List.getD_eq_getElem?_getD,List.getElem?_eq_getElem h]
 exact List.getElem_mem _
theorem same_eq:∀ {l r:List Int},l.length=r.length→Same l.length l r→l=r
 | [],[],_,_=>rfl
 | [],_::_,h,_=>by simp at h
 | _::_,[],h,_=>by simp at h
 | x::l,y::r,h,hs=>by
  have h0:x=y:=hs 0 (by simp)
  have h1:l=r:=same_eq (by simpa using h) (fun j hj=>hs (j + 1) (by simpa using hj))
  rw [h0,h1]
theorem of_eq {l r:List Int} (h:l=r) (k:Nat):l.getD k 0=r.getD k 0:=by rw [h]
end Mem
set_option maxRecDepth 20000 in
set_option maxHeartbeats 3200000 in
theorem sameInts_l (x y:Ls) (w:World) (hx:NsIn w x.a x.L) (hy:NsIn w y.a y.L) (hl:x.L.length≤1000000) :
  Calls Try.prog 10 #[x.v,y.v] w fun e w'=>e=.returned (.bool (decide (x.L=y.L)))∧∃ q,w'=w.drewN q:=by
 obtain ⟨xa,l,xc⟩:=x
 obtain ⟨ya,r,yc⟩:=y
 unfold Ls.v
 dsimp only at hx hy hl ⊢
 obtain ⟨R,hR⟩:∃ R,R=decide (l=r):=⟨_,rfl⟩
 rw [← hR]
 have HT:=Lib.hid (fun (h:l=r)=>(by rw [hR]; simp [h]:R=true))
 have HF:=Lib.hid (fun (h:l ≠ r)=>(by rw [hR]; simp [h]:R=false))
 clear hR
 have HX:=Lib.hid hx
 have HY:=Lib.hid hy
 clear hx hy
 by_cases hlen:l.length=r.length
 ·have d0:((l.length:Int) != (r.length:Int))=false:=by simp; omega
  go_enter Try.func10,Try.ntmps10
  go_wp2_with fail
  go_loopw [5] (fun i wr=>∃ k q:Nat,k≤l.length∧i=.int .i64 k∧Hid (Same k l r)∧Hid (wr=w.drewN q)) (fun i _=>l.length - (intOf i).toNat)
  case atStart=>exact ⟨0,0,Nat.zero_le _,rfl,Lib.hid (fun j hj=>absurd hj (by omega)),Lib.hid rfl⟩
  case round=>
   obtain ⟨k,q,hk,rfl,HS,hwr⟩:=hrel
   have HXw:=Lib.hid (hwr.out ▸ ns_drewN HX.out q)
   have HYw:=Lib.hid (hwr.out ▸ ns_drewN HY.out q)
   by_cases hlt:k < l.length
   ·have hkr:k < r.length:=by omega
    have d1:decide ((k:Int) < (l.length:Int))=true:=by simp; omega
    have i1:(k:Int) < (l.length:Int):=by omega
    have i2:(k:Int) < (r.length:Int):=by omega
    rcases HXw.out with h0 | ⟨b1,o1,rfl,hb1,hc1⟩
    ·rw [h0] at hlt; simp at hlt
    rcases HYw.out with h0 | ⟨b2,o2,rfl,hb2,hc2⟩
    ·rw [h0] at hkr; simp at hkr
    have c1:=hc1 k hlt
    have c2:=hc2 k hkr
    clear hc1 hc2 HXw HYw
    have HSX:Hid (l.getD k 0=r.getD k 0→Same (k + 1) l r):=Lib.hid (fun h j hj=>by
     by_cases e:j=k
     ·rw [e]; exact h
     ·exact HS.out j (by omega))
    have HNE:Hid (l.getD k 0 ≠ r.getD k 0→R=false):=Lib.hid (fun h=>HF.out (fun e=>h (of_eq e k)))
    generalize l.getD k 0=x at *
    generalize r.getD k 0=y at *
    by_cases hxy:x=y
    ·have HSY:=Lib.hid (HSX.out hxy)
     subst hxy
     have e0:(x != x)=false:=by simp
     clear HSX HNE
     go_wp2_with fail
     go_quiet (fail)
     go_wp2_with fail
     go_roundw
     case rel=>exact ⟨k + 1,q + nq,by omega,by go_num,HSY,Lib.hid (by rw [hwr.out]; exact drewN_drewN w q nq)⟩
     case measure=>simp [intOf]; omega
    ·have e0:(x != y)=true:=by simp [hxy]
     have e1:=HNE.out hxy
     clear HSX HNE hxy HT HF
     subst e1
     go_wp2_with fail
     go_quiet (fail)
     go_wp2_with fail
     go_ret
     exact ⟨rfl,q + nq,by rw [hwr.out]; exact drewN_drewN w q nq⟩
   ·have hkm:k=l.length:=by omega
    have d1:decide ((k:Int) < (l.length:Int))=false:=by simp; omega
    have e1:=HT.out (same_eq hlen (hkm ▸ HS.out))
    clear HT HF
    subst e1
    go_wp2_with fail
    go_ret
    exact ⟨rfl,q,hwr.out⟩
 ·have d0:((l.length:Int) != (r.length:Int))=true:=by simp; omega
  have e1:=HF.out (fun e=>hlen (by rw [e]))
  clear HT HF
  subst e1
  go_enter Try.func10,Try.ntmps10
  go_wp2_with fail
  go_ret
  exact ⟨rfl,0,rfl⟩
namespace Mem
def mL (C:List Ls):List (List Int):=C.map Ls.L
theorem mL_getD (C:List Ls) (k:Nat) (h:k < C.length):(mL C).getD k []=(C.getD k Ls.zero).L:=by
 unfold mL
 rw [List.getD_eq_getElem?_getD,List.getD_eq_getElem?_getD,List.getElem?_map,List.getElem?_eq_getElem h]
 rfl
def SameR (k:Nat) (C D:List Ls):Prop:=∀ j,j < k→(C.getD j Ls.zero).L=(D.getD j Ls.zero).L
theorem sameR_eq {C D:List Ls} (h:C.length=D.length) (hs:SameR C.length C D):mL C=mL D:=by
 apply List.ext_getElem
 ·simp [mL,h]
 ·intro i h1 h2
  have hi:i < C.length:=by simpa [mL] using h1
  have:=hs i hi
  rw [← mL_getD C i hi,← mL_getD D i (by omega)] at this
  rw [List.getD_eq_getElem?_getD,List.getD_eq_getElem?_getD,List.getElem?_eq_getElem h1,List.getElem?_eq_getElem h2] at this
  simpa using this
theorem of_mL {C D:List Ls} (h:mL C=mL D) (k:Nat) (hk:k < C.length):(C.getD k Ls.zero).L=(D.getD k Ls.zero).L:=by
 have hl:C.length=D.length:=by
  have:=congrArg List.length h
  simpa [mL] using this
 rw [← mL_getD C k hk,← mL_getD D k (by omega),h]
end Mem
set_option maxRecDepth 20000 in
set_option maxHeartbeats 3200000 in
theorem sameLists_l (a a':Option Addr) (C D:List Ls) (c c':Nat) (w:World) (hx:LsIn w a C) (hy:LsIn w a' D) (hl:C.length≤1000000) (hcl:∀ q,q < C.length→(C.getD q Ls.zero).L.length≤1000000) :
  Calls Try.prog 14 #[.slice a C.length c,.slice a' D.length c'] w fun e w'=>e=.returned (.bool (decide (mL C=mL D)))∧∃ q,w'=w.drewN q:=by
 obtain ⟨R,hR⟩:∃ R,R=decide (mL C=mL D):=⟨_,rfl⟩
 rw [← hR]
 have HT:=Lib.hid (fun (h:mL C=mL D)=>(by rw [hR]; simp [h]:R=true))
 have HF:=Lib.hid (fun (h:mL C ≠ mL D)=>(by rw [hR]; simp [h]:R=false))
 clear hR
 have HX:=Lib.hid hx
 have HY:=Lib.hid hy
 have HCL:=Lib.hid hcl
 clear hx hy hcl
 by_cases hlen:C.length=D.length
 ·have d0:((C.length:Int) != (D.length:Int))=false:=by simp; omega
  go_enter Try.func14,Try.ntmps14
  go_wp2_with fail
  go_loopw [5] (fun i wr=>∃ k q:Nat,k≤C.length∧i=.int .i64 k∧Hid (SameR k C D)∧Hid (wr=w.drewN q)) (fun i _=>C.length - (intOf i).toNat)
  case atStart=>exact ⟨0,0,Nat.zero_le _,rfl,Lib.hid (fun j hj=>absurd hj (by omega)),Lib.hid rfl⟩
  case round=>
   obtain ⟨k,q,hk,rfl,HS,hwr⟩:=hrel
   have HXw:Hid (LsIn wr a C):=Lib.hid (by rw [hwr.out]; exact HX.out.next (below_drewN (Below.refl _ _) q))
   have HYw:Hid (LsIn wr a' D):=Lib.hid (by rw [hwr.out]; exact HY.out.next (below_drewN (Below.refl _ _) q))
   by_cases hlt:k < C.length
   ·have hkr:k < D.length:=by omega
    have d1:decide ((k:Int) < (C.length:Int))=true:=by simp; omega
    have i1:(k:Int) < (C.length:Int):=by omega
    have i2:(k:Int) < (D.length:Int):=by omega
    rcases HXw.out with h0 | ⟨b1,o1,rfl,hb1,hc1⟩
    ·rw [h0] at hlt; simp at hlt
    rcases HYw.out with h0 | ⟨b2,o2,rfl,hb2,hc2⟩
    ·rw [h0] at hkr; simp at hkr
    have c1:=(hc1 k hlt).1
    have c2:=(hc2 k hkr).1
    have HN1:=Lib.hid (hc1 k hlt).2
    have HN2:=Lib.hid (hc2 k hkr).2
    have HL1:=Lib.hid (HCL.out k hlt)
    clear hc1 hc2 HXw HYw
    have HSX:Hid ((C.getD k Ls.zero).L=(D.getD k Ls.zero).L→SameR (k + 1) C D):=Lib.hid (fun h j hj=>by
     by_cases e:j=k
     ·rw [e]; exact h
     ·exact HS.out j (by omega))
    have HNE:Hid ((C.getD k Ls.zero).L ≠ (D.getD k Ls.zero).L→R=false):=Lib.hid (fun h=>HF.out (fun e=>h (of_mL e k hlt)))
    generalize C.getD k Ls.zero=x at *
    generalize D.getD k Ls.zero=y at *
    have HSI:=Lib.hid (fun n=>sameInts_l x y (wr.drewN n) (ns_drewN HN1.out n) (ns_drewN HN2.out n) HL1.out)
    by_cases hxy:x.L=y.L
    ·have HSY:=Lib.hid (HSX.out hxy)
     rw [show decide (x.L=y.L)=true by simp [hxy]] at HSI
     clear HSX HNE hxy
     go_wp2_with fail
     go_quiet ((go_at_call 10; exact Calls.quiet_of (HSI.out _)))
     go_wp2_with fail
     go_roundw
     case rel=>exact ⟨k + 1,q + nq,by omega,by go_num,HSY,Lib.hid (by rw [hwr.out]; exact drewN_drewN w q nq)⟩
     case measure=>simp [intOf]; omega
    ·have e1:=HNE.out hxy
     rw [show decide (x.L=y.L)=false by simp [hxy]] at HSI
     clear HSX HNE hxy HT HF
     subst e1
     go_wp2_with fail
     go_quiet ((go_at_call 10; exact Calls.quiet_of (HSI.out _)))
     go_wp2_with fail
     go_ret
     exact ⟨rfl,q + nq,by rw [hwr.out]; exact drewN_drewN w q nq⟩
   ·have hkm:k=C.length:=by omega
    have d1:decide ((k:Int) < (C.length:Int))=false:=by simp; omega
    have e1:=HT.out (sameR_eq hlen (hkm ▸ HS.out))
    clear HT HF
    subst e1
    go_wp2_with fail
    go_ret
    exact ⟨rfl,q,hwr.out⟩
 ·have d0:((C.length:Int) != (D.length:Int))=true:=by simp; omega
  have e1:=HF.out (fun e=>hlen (by simpa [mL] using congrArg List.length e))
  clear HT HF
  subst e1
  go_enter Try.func14,Try.ntmps14
  go_wp2_with fail
  go_ret
  exact ⟨rfl,0,rfl⟩
end Go.Proofs.Yteghpophcnehgaa
