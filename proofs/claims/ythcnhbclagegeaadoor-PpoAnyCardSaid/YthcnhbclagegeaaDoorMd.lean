/-
  What the functions that the law reaches do, one by one: contracts. Conditions: Zcj that each of them prints.
-/
import Derived.Test.YthcnhbclagegeaaDoorMc
import Derived.Deep.RegionWith
import Derived.Deep.DrawnRows
namespace Go.Proofs.YthcnhbclagegeaaDoor
open Go.RowKit RelA
attribute [local irreducible] RelA.rcells
namespace RelA
abbrev Zt2 (M:Nat->Nat->Bool) (i j:Nat):Prop:=Relation.TransGen (fun a b=>M a b=true) i j
def pk (T:Nat->Nat->Bool) (k a x:Nat):Nat->Nat->Bool:=fun i j=>
 if i < a ∨ (i=a/\j < x) then (T i j || (T i k && T k j)) else T i j
def WFM (n:Nat) (M:Nat->Nat->Bool):Prop:=∀ i j,M i j=true->i < n/\j < n
def QInv (n:Nat) (M T:Nat->Nat->Bool) (k:Nat):Prop:=
 WFM n T/\(∀ i j,M i j=true->T i j=true)/\(∀ i j,T i j=true->Zt2 M i j)/\∀ m,m < k->∀ i j,T i m=true->T m j=true->T i j=true
theorem Zrf {M:Nat->Nat->Bool} {i j k:Nat} (h:Zt2 M i j) (g:Zt2 M j k):Zt2 M i k:=by
 induction g with
 | single g=>exact .tail h g
 | tail _ g ih=>exact .tail ih g
theorem QInv.start (n:Nat) (M:Nat->Nat->Bool) (h:WFM n M):QInv n M M 0:=⟨h,fun _ _ h=>h,fun _ _ h=>.single h,fun m hm=>absurd hm (by omega)⟩
theorem QInv.step {n k:Nat} {M T:Nat->Nat->Bool} (h:QInv n M T k):QInv n M (fun i j=>T i j || (T i k && T k j)) (k + 1):=by
 obtain ⟨h1,h2,h3,h4⟩:=h
 have hor:∀ i j,(T i j || (T i k && T k j))=true ↔ T i j=true ∨ (T i k=true/\T k j=true):=fun i j=>by
  rw [Bool.or_eq_true,Bool.and_eq_true]
 refine ⟨fun i j h=>?_,fun i j h=>?_,fun i j h=>?_,fun m hm i j a b=>?_⟩
 ·rcases (hor i j).1 h with h | ⟨h,g⟩
  ·exact h1 i j h
  ·exact ⟨(h1 _ _ h).1,(h1 _ _ g).2⟩
 ·exact (hor i j).2 (.inl (h2 i j h))
 ·rcases (hor i j).1 h with h | ⟨h,g⟩
  ·exact h3 i j h
  ·exact Zrf (h3 _ _ h) (h3 _ _ g)
 ·have a:=(hor i m).1 a
  have b:=(hor m j).1 b
  refine (hor i j).2 ?_
  by_cases e:m=k
  ·subst e
   have a2:T i m=true:=by rcases a with a | ⟨a,_⟩ <;> exact a
   have b2:T m j=true:=by rcases b with b | ⟨_,b⟩ <;> exact b
   exact .inr ⟨a2,b2⟩
  ·have hm2:m < k:=by omega
   rcases a with a | ⟨a,a'⟩ <;> rcases b with b | ⟨b,b'⟩
   ·exact .inl (h4 m hm2 i j a b)
   ·exact .inr ⟨h4 m hm2 i k a b,b'⟩
   ·exact .inr ⟨a,h4 m hm2 k j a' b⟩
   ·exact .inr ⟨a,b'⟩
theorem QInv.done {n k:Nat} {M T:Nat->Nat->Bool} (h:QInv n M T k) (hk:n<=k) (i j:Nat):T i j=true ↔ Zt2 M i j:=by
 obtain ⟨h1,h2,h3,h4⟩:=h
 refine ⟨h3 i j,fun h=>?_⟩
 induction h with
 | single h=>exact h2 _ _ h
 | @tail b c _ hbc ih=>exact h4 b (Nat.lt_of_lt_of_le (h1 _ _ ih).2 hk) i c ih (h2 _ _ hbc)
end RelA
end Go.Proofs.YthcnhbclagegeaaDoor
namespace Go.Proofs.YthcnhbclagegeaaDoor
open Go.RowKit RelA
attribute [local irreducible] RelA.rcells
namespace RelA
def Zjf (M:Nat->Nat->Bool) (i q:Nat):List (Nat × Nat):=((List.range q).filter fun j=>M i j).map fun j=>(i,j)
def Zku (N:Nat) (M:Nat->Nat->Bool) (k:Nat):List (Nat × Nat):=(List.range k).flatMap fun i=>Zjf M i N
def Zbh (N:Nat) (M:Nat->Nat->Bool):List (Nat × Nat):=Zku N M N
theorem Znl (M:Nat->Nat->Bool) (i q:Nat) (h:M i q=true):Zjf M i (q + 1)=Zjf M i q ++ [(i,q)]:=by
 unfold Zjf; rw [List.range_succ,List.filter_append,List.map_append]; simp [h]
theorem Zqt (M:Nat->Nat->Bool) (i q:Nat) (h:M i q=false):Zjf M i (q + 1)=Zjf M i q:=by
 unfold Zjf; rw [List.range_succ,List.filter_append,List.map_append]; simp [h]
theorem Znm (M:Nat->Nat->Bool) (i q:Nat):(Zjf M i q).length<=q:=by
 unfold Zjf; rw [List.length_map]
 have:=List.length_filter_le (fun j=>M i j) (List.range q)
 simpa using this
theorem Zhr (N:Nat) (M:Nat->Nat->Bool) (k:Nat):Zku N M (k + 1)=Zku N M k ++ Zjf M k N:=by
 unfold Zku; rw [List.range_succ,List.flatMap_append]; simp
theorem Zhj (N:Nat) (M:Nat->Nat->Bool) (hN:N<=40) (k:Nat):(Zku N M k).length<=40 * k:=by
 induction k with
 | zero=>simp [Zku]
 | succ k ih=>
  rw [Zhr,List.length_append]
  have:=Znm M k N
  omega
def PairsRd (w:World) (a:Option Addr) (L:List (Nat × Nat)):Prop:=L=[] ∨ ∃ g,a=some ⟨g,0,none⟩/\g < w.heap.size/\∀ i,i < L.length ->
 w.cell? ⟨g,i * 2,none⟩=some (.int .i64 ((Zdr L).getD i (0,0)).1)/\w.cell? ⟨g,i * 2 + 1,none⟩=some (.int .i64 ((Zdr L).getD i (0,0)).2)
theorem PairsRd.next {w w':World} {a:Option Addr} {L:List (Nat × Nat)} (h:PairsRd w a L) (hb:Below w.heap.size w w'):PairsRd w' a L:=by
 rcases h with h | ⟨g,h1,h2,h3⟩
 ·exact .inl h
 ·exact .inr ⟨g,h1,Nat.lt_of_lt_of_le h2 hb.size,fun i hi=>⟨(hb.cell (p:=⟨g,i * 2,none⟩) h2).trans (h3 i hi).1,(hb.cell (p:=⟨g,i * 2 + 1,none⟩) h2).trans (h3 i hi).2⟩⟩
theorem PairsRd.of_own {w:World} {base:Nat} {v:Value} {L:List (Nat × Nat)} (hown:w.ownsRow base 41 2 v L.length (Zax L)):∃ a cap,v=.slice a L.length cap/\PairsRd w a L:=by
 obtain ⟨hl,⟨rfl,h0⟩ | ⟨g,cap,cur,rfl,hg,hcur,hc1,hc2,hc3,hc4⟩⟩:=hown
 ·have:L=[]:=List.length_eq_zero_iff.1 h0
  subst this
  exact ⟨none,0,rfl,.inl rfl⟩
 ·have Zjh:∀ j,j < L.length * 2->w.cell? ⟨g,j,none⟩=(Zax L)[j]?:=by
   intro j hj
   rw [cell_of_row w g j cur _ _ hcur,<- hc4,List.getElem?_take,if_pos hj]
   simp
  refine ⟨_,_,rfl,.inr ⟨g,rfl,(Array.getElem?_eq_some_iff.1 hcur).1,fun i hi=>?_⟩⟩
  have hp:=Zn7 L i hi
  rw [Zjh _ (by omega),Zjh _ (by omega)]
  exact hp
end RelA
set_option maxRecDepth 20000 in
set_option maxHeartbeats 3200000 in
theorem Zlv (b n:Nat) (M:Nat->Nat->Bool) (w:World) (hb:RAt w b n M) (hn:n<=40) :
  Calls Tryd.prog 96 #[.pointer (some ⟨b,0,none⟩)] w fun e w'=>∃ v,e=.returned v/\w'.ownsRow w.heap.size 41 2 v (Zbh n M).length (Zax (Zbh n M))/\Below w.heap.size w w':=by
 have HB:=Lib.hid hb
 clear hb
 obtain ⟨i0,hi,hz0,hz1,hz2⟩:=info_parts Zim
 go_enter Tryd.func96,Tryd.ntmps96
 go_wp2_with fail
 go_loopw [3,4] (fun v x wr=>∃ k:Nat,k<=n/\x=.int .i64 k/\wr.ownsRow w.heap.size 41 2 v (Zku n M k).length (Zax (Zku n M k))/\Below w.heap.size w wr) (fun _ x _=>n - (intOf x).toNat)
 case atStart=>exact ⟨0,Nat.zero_le _,rfl,⟨rfl,.inl ⟨rfl,rfl⟩⟩,Below.refl _ _⟩
 case round=>
  obtain ⟨k,hk,rfl,hown,hbe⟩:=hrel
  have hr0:=(HB.out.below hbe HB.out.lt).c0
  by_cases hlt:k < n
  ·obtain ⟨wo,rfl⟩:∃ wo:World,wo=wr:=⟨_,rfl⟩
   have hdk:decide ((k:Int) < (n:Int))=true:=by simp; omega
   have hki:(k:Int) < (n:Int):=by omega
   have hk40:(k:Int) < 40:=by omega
   have HOWN:=Lib.hid hown
   have hpl:=Zhj n M hn k
   clear hown
   go_wp2_with fail
   clear hr0
   go_loopw [3,5] (fun v x wi=>∃ q:Nat,q<=n/\x=.int .i64 q/\wi.ownsRow w.heap.size 41 2 v (Zku n M k ++ Zjf M k q).length (Zax (Zku n M k ++ Zjf M k q))/\Below w.heap.size w wi) (fun _ x _=>n - (intOf x).toNat)
   case atStart=>
    refine ⟨0,Nat.zero_le _,rfl,?_,hbe⟩
    have h1:=HOWN.out
    show World.ownsRow _ _ _ _ _ (Zku n M k ++ []).length (Zax (Zku n M k ++ []))
    rw [List.append_nil]; exact h1
   case round=>
    obtain ⟨q,hq,rfl,hown,hbi⟩:=hrel
    have hsz:=hbi.size
    have hrl:=Znm M k q
    have hll:(Zku n M k ++ Zjf M k q).length<=1700:=by rw [List.length_append]; omega
    have hr0:=(HB.out.below hbi HB.out.lt).c0
    have HOWNI:=Lib.hid hown
    clear hown
    by_cases hql:q < n
    ·have hdq:decide ((q:Int) < (n:Int))=true:=by simp; omega
     have hqi:(q:Int) < (n:Int):=by omega
     have hq40:(q:Int) < 40:=by omega
     have hm1:=(HB.out.below hbi HB.out.lt).ci k q (by omega) (by omega)
     cases hx:M k q
     ·rw [hx] at hm1
      have HX:=Lib.hid hx
      clear hx
      go_wp2_with fail
      go_roundw
      case rel=>
       refine ⟨q + 1,by omega,by go_num,?_,hbi⟩
       rw [Zqt M k q HX.out]; exact HOWNI.out
      case measure=>simp [intOf]; omega
     ·rw [hx] at hm1
      have HX:=Lib.hid hx
      clear hx
      go_wp2_with (first
       | (at_builtin; refine wpList_append_own _ rfl (.tmp 30) (.tmp 34) 26 rfl w.heap.size 41 i0 (.agg #[.int .i64 0,.int .i64 0]) 2 16 Tryd.underlying26 hi hz0 hz1 hz2 rfl (by decide) _ _ _ rfl (HOWNI.out.alloc _) ⟨wr.heap.size,0,none⟩ 1 1 [.int .i64 k,.int .i64 q] rfl rfl (World.news_of_block (cs:=#[.int .i64 k,.int .i64 q]) (t:=41) (fr:=(0,0)) (heap_alloc_new wr _)) (by simp [Value.oneCell']) (by unfold maxLen; omega) (by omega) (by simp; omega) ?_; intro v1 w1 hown1 hgrow1 hnil1; have HO1:=Lib.hid hown1; have HG1:=Lib.hid hgrow1; clear hown1 hgrow1 hnil1))
      go_roundw
      case rel=>
       refine ⟨q + 1,by omega,by go_num,?_,?_⟩
       ·rw [Znl M k q HX.out,<- List.append_assoc,Zbf,List.length_append]
        exact HO1.out
       ·exact (hbi.alloc hsz _).grown HG1.out (by simp; omega) (fun j hj=>(HOWNI.out.lt j hj).1)
      case measure=>simp [intOf]; omega
    ·have hqN:q=n:=by omega
     have HQ:=Lib.hid hqN
     have hdq:decide ((q:Int) < (n:Int))=false:=by simp; omega
     clear hqN
     go_wp2_with fail
     go_roundw
     case rel=>
      refine ⟨k + 1,by omega,by go_num,?_,hbi⟩
      have h1:=HOWNI.out
      rw [HQ.out] at h1
      rw [Zhr]; exact h1
     case measure=>simp [intOf]; omega
  ·have hkN:k=n:=by omega
   have HKN:=Lib.hid hkN
   have hdk:decide ((k:Int) < (n:Int))=false:=by simp; omega
   have HOWN:=Lib.hid hown
   clear hkN hown
   go_wp2_with fail
   go_ret
   refine ⟨_,rfl,?_,hbe⟩
   have h1:=HOWN.out
   rw [HKN.out] at h1
   exact h1
set_option maxRecDepth 20000 in
set_option maxHeartbeats 800000 in
theorem Yk1 (b n c m:Nat) (M S:Nat->Nat->Bool) (w:World) (hb:RAt w b n M) (hc:RAt w c m S) (hn:n<=40) (hm:m<=40) (x:Bool)
  (hx:(((Zbh (max n m) (Zdk (max n m) fun i j=>M i j && !S i j)).length:Int) == 0)=x) :
  Calls Tryd.prog 128 #[.pointer (some ⟨b,0,none⟩),.pointer (some ⟨c,0,none⟩)] w fun e w'=>e=.returned (.bool x)/\Below w.heap.size w w':=by
 have H1:=Lib.hid (Zo8 b n c m M S w hb hc hn hm)
 have hN:max n m<=40:=by omega
 generalize max n m=N at *
 clear hb hc hn hm
 generalize (Zdk N fun i j=>M i j && !S i j)=X at *
 go_enter Tryd.func128,Tryd.ntmps128
 go_wp2_with fail
 refine H1.out.mono ?_
 rintro e w1 ⟨rfl,hat,hbe1⟩
 have HAT:=Lib.hid hat
 clear hat
 go_wp2_with fail
 refine (Zlv _ N X w1 HAT.out hN).mono ?_
 rintro e w2 ⟨v,rfl,hown,hbe2⟩
 obtain ⟨pa,pc,rfl⟩:=Yl4 hown
 have HB2:=Lib.hid (Zab hbe1 hbe2)
 clear hown hbe1 hbe2
 go_wp2_with fail
 go_ret
 exact ⟨rfl,HB2.out⟩
end Go.Proofs.YthcnhbclagegeaaDoor
namespace Go.Proofs.YthcnhbclagegeaaDoor
open Go.RowKit RelA
attribute [local irreducible] RelA.rcells
set_option maxRecDepth 20000 in
set_option maxHeartbeats 1600000 in
theorem Ysx (L:List (Nat × Nat)) (a1 a2:Option Addr) (c1 c2:Nat) (w:World) (h1:PairsRd w a1 L) (h2:PairsRd w a2 L) (hL:L.length<=100000) :
  Calls Tryd.prog 95 #[.slice a1 L.length c1,.slice a2 L.length c2] w fun e w'=>e=.returned (.bool true)/\Below w.heap.size w w':=by
 have H1:=Lib.hid h1
 have H2:=Lib.hid h2
 clear h1 h2
 go_enter Tryd.func95,Tryd.ntmps95
 go_wp2_with fail
 go_loopw [5] (fun x wr=>∃ k:Nat,k<=L.length/\x=.int .i64 k/\Below w.heap.size w wr) (fun x _=>L.length - (intOf x).toNat)
 case atStart=>exact ⟨0,Nat.zero_le _,rfl,Below.refl _ _⟩
 case round=>
  obtain ⟨k,hk,rfl,hbe⟩:=hrel
  by_cases hlt:k < L.length
  ·have hdk:decide ((k:Int) < (L.length:Int))=true:=by simp; omega
   have hki:(k:Int) < (L.length:Int):=by omega
   rcases (H1.out.next hbe) with h0 | ⟨g1,rfl,hg1,hc1⟩
   ·rw [h0] at hlt; simp at hlt
   ·rcases (H2.out.next hbe) with h0 | ⟨g2,rfl,hg2,hc2⟩
    ·rw [h0] at hlt; simp at hlt
    ·have e1:=(hc1 k hlt).1
     have e2:=(hc1 k hlt).2
     have e3:=(hc2 k hlt).1
     have e4:=(hc2 k hlt).2
     clear hc1 hc2 hg1 hg2
     generalize (Zdr L).getD k (0,0)=p at *
     obtain ⟨pa,pb⟩:=p
     simp only at e1 e2 e3 e4
     go_wp2_with fail
     go_region
     go_wp2_with fail
     go_roundw
     case rel=>exact ⟨k + 1,by omega,by go_num,hbe.drew⟩
     case measure=>simp [intOf]; omega
  ·have hdk:decide ((k:Int) < (L.length:Int))=false:=by simp; omega
   go_wp2_with fail
   go_ret
   exact ⟨rfl,hbe⟩
section
attribute [local go_sem ↓] Go.wp_at_zero Go.wp_at_succ
end
end Go.Proofs.YthcnhbclagegeaaDoor
