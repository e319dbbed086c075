/-
  What the functions that the law reaches do, one by one: contracts. Conditions: those that each of them prints.
-/
import Derived.Test.YthcnhbclagegeaaGreatDoorMc
import Derived.Deep.RegionWith
import Derived.Deep.DrawnRows
set_option maxRecDepth 20000
set_option maxHeartbeats 3200000
namespace Go.Proofs.YthcnhbclagegeaaGreatDoor
open Go.RowKit RelA
section
attribute [local irreducible] RelA.rcells
namespace RelA
abbrev Zg9 (M:Nat->Nat->Bool) (i j:Nat):Prop:=Relation.TransGen (fun a b=>M a b=true) i j
def pk (T:Nat->Nat->Bool) (k a x:Nat):Nat->Nat->Bool:=fun i j=>
 if i<a∨(i=a/\j<x) then (T i j||(T i k&&T k j)) else T i j
def WFM (n:Nat) (M:Nat->Nat->Bool):Prop:=∀ i j,M i j=true->i<n/\j<n
def QInv (n:Nat) (M T:Nat->Nat->Bool) (k:Nat):Prop:=
 WFM n T/\(∀ i j,M i j=true->T i j=true)/\(∀ i j,T i j=true->Zg9 M i j)/\∀ m,m<k->∀ i j,T i m=true->T m j=true->T i j=true
theorem Zqp {M:Nat->Nat->Bool} {i j k:Nat} (h:Zg9 M i j) (g:Zg9 M j k):Zg9 M i k:=by
 induction g with
 | single g=>exact .tail h g
 | tail _ g ih=>exact .tail ih g
theorem QInv.start (n:Nat) (M:Nat->Nat->Bool) (h:WFM n M):QInv n M M 0:=⟨h,fun _ _ h=>h,fun _ _ h=>.single h,fun m hm=>absurd hm (by omega)⟩
theorem QInv.step {n k:Nat} {M T:Nat->Nat->Bool} (h:QInv n M T k):QInv n M (fun i j=>T i j||(T i k&&T k j)) (k+1):=by
 obtain⟨h1,h2,h3,h4⟩:=h
 have hor:∀ i j,(T i j||(T i k&&T k j))=true↔T i j=true∨(T i k=true/\T k j=true):=fun i j=>by
  rw[Bool.or_eq_true,Bool.and_eq_true]
 refine⟨fun i j h=>?_,fun i j h=>?_,fun i j h=>?_,fun m hm i j a b=>?_⟩
 ·rcases (hor i j).1 h with h | ⟨h,g⟩
  ·exact h1 i j h
  ·exact⟨(h1 _ _ h).1,(h1 _ _ g).2⟩
 ·exact(hor i j).2 (.inl (h2 i j h))
 ·rcases (hor i j).1 h with h | ⟨h,g⟩
  ·exact h3 i j h
  ·exact Zqp (h3 _ _ h) (h3 _ _ g)
 ·have a:=(hor i m).1 a
  have b:=(hor m j).1 b
  refine(hor i j).2 ?_
  by_cases e:m=k
  ·subst e
   have a2:T i m=true:=by rcases a with a | ⟨a,_⟩<;>exact a
   have b2:T m j=true:=by rcases b with b | ⟨_,b⟩<;>exact b
   exact .inr ⟨a2,b2⟩
  ·have hm2:m<k:=by omega
   rcases a with a | ⟨a,a'⟩<;>rcases b with b | ⟨b,b'⟩
   ·exact .inl (h4 m hm2 i j a b)
   ·exact .inr ⟨h4 m hm2 i k a b,b'⟩
   ·exact .inr ⟨a,h4 m hm2 k j a' b⟩
   ·exact .inr ⟨a,b'⟩
theorem QInv.done {n k:Nat} {M T:Nat->Nat->Bool} (h:QInv n M T k) (hk:n<=k) (i j:Nat):T i j=true↔Zg9 M i j:=by
 obtain⟨h1,h2,h3,h4⟩:=h
 refine⟨h3 i j,fun h=>?_⟩
 induction h with
 | single h=>exact h2 _ _ h
 | @tail b c _ hbc ih=>exact h4 b (Nat.lt_of_lt_of_le (h1 _ _ ih).2 hk) i c ih (h2 _ _ hbc)
theorem Yf0 (T:Nat->Nat->Bool) (k i j:Nat):pk T k 0 0 i j=T i j:=by
 unfold pk;rw[if_neg (by omega)]
theorem Yjs (T:Nat->Nat->Bool) (k a x:Nat):pk T k a x a k=T a k:=by
 unfold pk;split
 ·cases T a k<;>simp
 ·rfl
theorem Yp3 (T:Nat->Nat->Bool) (k a x:Nat):pk T k a x k x=T k x:=by
 unfold pk;split
 ·cases T k k<;>cases T k x<;>rfl
 ·rfl
theorem Yp4 (T:Nat->Nat->Bool) (k a x:Nat):pk T k a x a x=T a x:=by
 unfold pk;rw[if_neg (by omega)]
theorem Yf2 (T:Nat->Nat->Bool) (k a:Nat) (h:T a k=false) (i j:Nat):pk T k a 0 i j=pk T k (a+1) 0 i j:=by
 unfold pk
 by_cases e:i=a
 ·subst e
  rw[if_neg (by omega),if_pos (by omega),h];simp
 ·by_cases h2:i<a
  ·rw[if_pos (by omega),if_pos (by omega)]
  ·rw[if_neg (by omega),if_neg (by omega)]
theorem Ykx (T:Nat->Nat->Bool) (n k a:Nat) (hW:WFM n T) (i j:Nat):pk T k a n i j=pk T k (a+1) 0 i j:=by
 unfold pk
 by_cases e:i=a
 ·subst e
  by_cases hj:j<n
  ·rw[if_pos (by omega),if_pos (by omega)]
  ·rw[if_neg (by omega),if_pos (by omega)]
   have h1:T i j=false:=by
    rw[<- Bool.not_eq_true];intro h;exact hj (hW _ _ h).2
   have h2:T k j=false:=by
    rw[<- Bool.not_eq_true];intro h;exact hj (hW _ _ h).2
   rw[h1,h2];simp
 ·by_cases h2:i<a
  ·rw[if_pos (by omega),if_pos (by omega)]
  ·rw[if_neg (by omega),if_neg (by omega)]
theorem Yf3 (T:Nat->Nat->Bool) (n k a:Nat) (hW:WFM n T) (ha:a=n) (i j:Nat):pk T k a 0 i j=(T i j||(T i k&&T k j)):=by
 subst ha
 unfold pk
 by_cases h:i<a
 ·rw[if_pos (by omega)]
 ·rw[if_neg (by omega)]
  have h1:T i j=false:=by
   rw[<- Bool.not_eq_true];intro g;exact h (hW _ _ g).1
  have h2:T i k=false:=by
   rw[<- Bool.not_eq_true];intro g;exact h (hW _ _ g).1
  rw[h1,h2];simp
theorem Yf1 (T:Nat->Nat->Bool) (k a x:Nat) (h:T a k=true) (i j:Nat):Zkw (pk T k a x) a x (T a x||T k x) i j=pk T k a (x+1) i j:=by
 unfold Zkw
 by_cases e:i=a/\j=x
 ·rw[if_pos e];obtain⟨rfl,rfl⟩:=e
  unfold pk;rw[if_pos (by omega),h];simp
 ·rw[if_neg e]
  unfold pk
  by_cases h2:i<a∨(i=a/\j<x)
  ·rw[if_pos h2,if_pos (by omega)]
  ·rw[if_neg h2,if_neg (by omega)]
end RelA
theorem Zod (b n:Nat) (M:Nat->Nat->Bool) (w:World) (hb:RAt w b n M) (hn:n<=40) (hW:WFM n M) :
  Calls Tryz.prog 104 #[.pointer (some ⟨b,0,none⟩)] w fun e w'=>∃ T:Nat->Nat->Bool,e=.returned (.pointer (some ⟨w.heap.size,0,none⟩))/\RAt w' w.heap.size n T/\(∀ i j,T i j=true↔Zg9 M i j)/\WFM n T/\Below w.heap.size w w':=by
 have hb0:=hb.c0
 have HCL:Hid (Zal (n:Int)=n):=by show Zal _=_;unfold Zal;omega
 have HB:=jh hb
 have HW:=jh hW
 clear hb hW
 go_enter Tryz.func104,Tryz.ntmps104
 go_wp2_with fail
 refine(Zds (n:Int) w).mono ?_
 rintro e w1 ⟨rfl,hat,hbe1⟩
 rw[HCL.out] at hat
 have HAT1:=jh hat
 have HB1:=jh hbe1
 clear hat hbe1 HCL hb0
 go_wp2_with (first
  | (with_reducible refine Zh4 rfl _ rfl b n M rfl (HB.out.next HB1.out) ?_)
  | ((with_reducible refine Zgg rfl _ _ rfl w.heap.size n _ M rfl rfl HAT1.out ?_);intro w2 hat2 hbe2;have HAT2:=jh hat2;have HB2:Hid (Below w.heap.size w w2):=HB1.out.trans hbe2;clear hat2 hbe2))
 go_loopw [4] (fun x wr=>∃ (k:Nat) (T:Nat->Nat->Bool),k<=n/\x=.int .i64 k/\RAt wr w.heap.size n T/\Hid (QInv n M T k)/\Below w.heap.size w wr) (fun x _=>n-(intOf x).toNat)
 case atStart=>exact⟨0,M,Nat.zero_le _,rfl,HAT2.out,QInv.start n M HW.out,HB2.out⟩
 case round=>
  obtain⟨k,T,hk,rfl,hat,hQ,hbe⟩:=hrel
  have HWT:Hid (WFM n T):=hQ.out.1
  by_cases hlt:k<n
  ·obtain⟨wo,rfl⟩:∃ wo:World,wo=wr:=⟨_,rfl⟩
   have hr0:=hat.c0
   have hdk:decide ((k:Int)<(n:Int))=true:=by simp;omega
   have hki:(k:Int)<(n:Int):=by omega
   have hk40:(k:Int)<40:=by omega
   have HAT:=jh hat
   clear hat
   go_wp2_with fail
   clear hr0
   go_loopw [5] (fun x wi=>∃ a:Nat,a<=n/\x=.int .i64 a/\RAt wi w.heap.size n (pk T k a 0)/\Below w.heap.size w wi) (fun x _=>n-(intOf x).toNat)
   case atStart=>exact⟨0,Nat.zero_le _,rfl,HAT.out.congr fun i j _ _=>(Yf0 T k i j).symm,hbe⟩
   case round=>
    obtain⟨a,ha,rfl,hati,hbi⟩:=hrel
    have hr0:=hati.c0
    by_cases hal:a<n
    ·obtain⟨wq,rfl⟩:∃ wq:World,wq=wr:=⟨_,rfl⟩
     have hda:decide ((a:Int)<(n:Int))=true:=by simp;omega
     have hai:(a:Int)<(n:Int):=by omega
     have ha40:(a:Int)<40:=by omega
     have HATI:=jh hati
     clear hati
     cases hx1:T a k
     ·have HX1:=jh hx1
      clear hx1
      go_wp2_with fail
      clear hr0
      go_loopw [6] (fun x wi=>x=.int .i64 0/\RAt wi w.heap.size n (pk T k a 0)/\Below w.heap.size w wi) (fun x _=>0)
      case atStart=>exact⟨rfl,HATI.out,hbi⟩
      case round=>
       obtain⟨rfl,hatx,hbx⟩:=hrel
       have hr0:=hatx.c0
       have hd0:decide ((0:Int)<(n:Int))=true:=by simp;omega
       have hm1:=hatx.ci a k (by omega) (by omega)
       rw[Yjs,HX1.out] at hm1
       have HATX:=jh hatx
       clear hatx
       go_wp2_with fail
       go_roundw
       case rel=>exact⟨a+1,by omega,by go_num,HATX.out.congr fun i j _ _=>Yf2 T k a HX1.out i j,hbx⟩
       case measure=>simp[intOf];omega
     ·have HX1:=jh hx1
      clear hx1
      go_wp2_with fail
      clear hr0
      go_loopw [6] (fun x wi=>∃ z:Nat,z<=n/\x=.int .i64 z/\RAt wi w.heap.size n (pk T k a z)/\Below w.heap.size w wi) (fun x _=>n-(intOf x).toNat)
      case atStart=>exact⟨0,Nat.zero_le _,rfl,HATI.out,hbi⟩
      case round=>
       obtain⟨z,hz,rfl,hatx,hbx⟩:=hrel
       have hr0:=hatx.c0
       have hm1:=hatx.ci a k (by omega) (by omega)
       rw[Yjs,HX1.out] at hm1
       by_cases hzl:z<n
       ·have hdz:decide ((z:Int)<(n:Int))=true:=by simp;omega
        have hzi:(z:Int)<(n:Int):=by omega
        have hz40:(z:Int)<40:=by omega
        have hm2:=hatx.ci k z (by omega) (by omega)
        rw[Yp3] at hm2
        have hd:=hatx.ci a z (by omega) (by omega)
        rw[Yp4] at hd
        have hfz:=hatx.frozen (1+a*40+z)
        have HATX:=jh hatx
        have HST:=jh (Yf1 T k a z HX1.out)
        clear hatx
        cases hx2:T a z<;>cases hx3:T k z
        all_goals
         rw[hx2] at hd
         rw[hx3] at hm2
         have HX2:=jh hx2
         have HX3:=jh hx3
         clear hx2 hx3
         go_wp2_with fail
         go_region
         go_wp2_with fail
         go_roundw
         case rel=>
          refine⟨z+1,by omega,by go_num,?_,(hbx.setCell (Nat.le_refl _) _).drew⟩
          have h1:=HATX.out.set a z (T a z||T k z) (by omega) (by omega)
          have h2:=(h1.congr fun i j _ _=>HST.out i j).drew
          rw[HX2.out,HX3.out] at h2
          exact h2
         case measure=>simp[intOf];omega
       ·have hzN:z=n:=by omega
        have HZ:=jh hzN
        have hdz:decide ((z:Int)<(n:Int))=false:=by simp;omega
        have HATX:=jh hatx
        clear hzN hatx
        go_wp2_with fail
        go_roundw
        case rel=>
         refine⟨a+1,by omega,by go_num,?_,hbx⟩
         have h1:=HATX.out
         rw[HZ.out] at h1
         exact h1.congr fun i j _ _=>Ykx T n k a HWT.out i j
        case measure=>simp[intOf];omega
    ·have haN:a=n:=by omega
     have HA:=jh haN
     have hda:decide ((a:Int)<(n:Int))=false:=by simp;omega
     have HATI:=jh hati
     clear haN hati
     go_wp2_with fail
     go_roundw
     case rel=>
      exact⟨k+1,_,by omega,by go_num,HATI.out.congr fun i j _ _=>Yf3 T n k a HWT.out HA.out i j,hQ.out.step,hbi⟩
     case measure=>simp[intOf];omega
  ·have hkN:n<=k:=by omega
   have hdk:decide ((k:Int)<(n:Int))=false:=by simp;omega
   have hr0:=hat.c0
   have HAT:=jh hat
   clear hat
   go_wp2_with fail
   go_ret
   exact⟨T,rfl,HAT.out,hQ.out.done hkN,HWT.out,hbe⟩
end
section
attribute [local irreducible] RelA.rcells
namespace RelA
def Zi5 (M:Nat->Nat->Bool) (i q:Nat):List (Nat×Nat):=((List.range q).filter fun j=>M i j).map fun j=>(i,j)
def Zjb (N:Nat) (M:Nat->Nat->Bool) (k:Nat):List (Nat×Nat):=(List.range k).flatMap fun i=>Zi5 M i N
def Zay (N:Nat) (M:Nat->Nat->Bool):List (Nat×Nat):=Zjb N M N
theorem Zmw (M:Nat->Nat->Bool) (i q:Nat) (h:M i q=true):Zi5 M i (q+1)=Zi5 M i q ++ [(i,q)]:=by
 unfold Zi5;rw[List.range_succ,List.filter_append,List.map_append];simp[h]
theorem Zpy (M:Nat->Nat->Bool) (i q:Nat) (h:M i q=false):Zi5 M i (q+1)=Zi5 M i q:=by
 unfold Zi5;rw[List.range_succ,List.filter_append,List.map_append];simp[h]
theorem Zmx (M:Nat->Nat->Bool) (i q:Nat):(Zi5 M i q).length<=q:=by
 unfold Zi5;rw[List.length_map]
 have:=List.length_filter_le (fun j=>M i j) (List.range q)
 simpa using this
theorem Zhx (N:Nat) (M:Nat->Nat->Bool) (k:Nat):Zjb N M (k+1)=Zjb N M k++Zi5 M k N:=by
 unfold Zjb;rw[List.range_succ,List.flatMap_append];simp
theorem Zhm (N:Nat) (M:Nat->Nat->Bool) (hN:N<=40) (k:Nat):(Zjb N M k).length<=40*k:=by
 induction k with
 | zero=>simp[Zjb]
 | succ k ih=>
  rw[Zhx,List.length_append]
  have:=Zmx M k N
  omega
def PairsRd (w:World) (a:Option Addr) (L:List (Nat×Nat)):Prop:=L=[]∨∃ g,a=some ⟨g,0,none⟩/\g<w.heap.size/\∀ i,i<L.length ->
 w.cell? ⟨g,i*2,none⟩=some (.int .i64 ((Zdz L).getD i (0,0)).1)/\w.cell? ⟨g,i*2+1,none⟩=some (.int .i64 ((Zdz L).getD i (0,0)).2)
theorem PairsRd.next {w w':World} {a:Option Addr} {L:List (Nat×Nat)} (h:PairsRd w a L) (hb:Below w.heap.size w w'):PairsRd w' a L:=by
 rcases h with h | ⟨g,h1,h2,h3⟩
 ·exact .inl h
 ·exact .inr ⟨g,h1,Nat.lt_of_lt_of_le h2 hb.size,fun i hi=>⟨(hb.cell (p:=⟨g,i*2,none⟩) h2).trans (h3 i hi).1,(hb.cell (p:=⟨g,i*2+1,none⟩) h2).trans (h3 i hi).2⟩⟩
theorem PairsRd.of_own {w:World} {base:Nat} {v:Value} {L:List (Nat×Nat)} (hown:w.ownsRow base 56 2 v L.length (Zat L)):∃ a cap,v=.slice a L.length cap/\PairsRd w a L:=by
 obtain⟨hl,⟨rfl,h0⟩ | ⟨g,cap,cur,rfl,hg,hcur,hc1,hc2,hc3,hc4⟩⟩:=hown
 ·have:L=[]:=List.length_eq_zero_iff.1 h0
  subst this
  exact⟨none,0,rfl,.inl rfl⟩
 ·have hget:∀ j,j<L.length*2->w.cell? ⟨g,j,none⟩=(Zat L)[j]?:=by
   intro j hj
   rw[cell_of_row w g j cur _ _ hcur,<- hc4,List.getElem?_take,if_pos hj]
   simp
  refine⟨_,_,rfl,.inr ⟨g,rfl,(Array.getElem?_eq_some_iff.1 hcur).1,fun i hi=>?_⟩⟩
  have hp:=Znk L i hi
  rw[hget _ (by omega),hget _ (by omega)]
  exact hp
end RelA
theorem Zim (b n:Nat) (M:Nat->Nat->Bool) (w:World) (hb:RAt w b n M) (hn:n<=40) :
  Calls Tryz.prog 85 #[.pointer (some ⟨b,0,none⟩)] w fun e w'=>∃ v,e=.returned v/\w'.ownsRow w.heap.size 56 2 v (Zay n M).length (Zat (Zay n M))/\Below w.heap.size w w':=by
 have HB:=jh hb
 clear hb
 obtain⟨i0,hi,hz0,hz1,hz2⟩:=info_parts Ziz
 go_enter Tryz.func85,Tryz.ntmps85
 go_wp2_with fail
 go_loopw [3,4] (fun v x wr=>∃ k:Nat,k<=n/\x=.int .i64 k/\wr.ownsRow w.heap.size 56 2 v (Zjb n M k).length (Zat (Zjb n M k))/\Below w.heap.size w wr) (fun _ x _=>n-(intOf x).toNat)
 case atStart=>exact⟨0,Nat.zero_le _,rfl,⟨rfl,.inl ⟨rfl,rfl⟩⟩,Below.refl _ _⟩
 case round=>
  obtain⟨k,hk,rfl,hown,hbe⟩:=hrel
  have hr0:=(HB.out.below hbe HB.out.lt).c0
  by_cases hlt:k<n
  ·obtain⟨wo,rfl⟩:∃ wo:World,wo=wr:=⟨_,rfl⟩
   have hdk:decide ((k:Int)<(n:Int))=true:=by simp;omega
   have hki:(k:Int)<(n:Int):=by omega
   have hk40:(k:Int)<40:=by omega
   have HOWN:=jh hown
   have hpl:=Zhm n M hn k
   clear hown
   go_wp2_with fail
   clear hr0
   go_loopw [3,5] (fun v x wi=>∃ q:Nat,q<=n/\x=.int .i64 q/\wi.ownsRow w.heap.size 56 2 v (Zjb n M k++Zi5 M k q).length (Zat (Zjb n M k++Zi5 M k q))/\Below w.heap.size w wi) (fun _ x _=>n-(intOf x).toNat)
   case atStart=>
    refine⟨0,Nat.zero_le _,rfl,?_,hbe⟩
    have h1:=HOWN.out
    show World.ownsRow _ _ _ _ _ (Zjb n M k ++ []).length (Zat (Zjb n M k ++ []))
    rw[List.append_nil];exact h1
   case round=>
    obtain⟨q,hq,rfl,hown,hbi⟩:=hrel
    have hsz:=hbi.size
    have hrl:=Zmx M k q
    have hll:(Zjb n M k++Zi5 M k q).length<=1700:=by rw[List.length_append];omega
    have hr0:=(HB.out.below hbi HB.out.lt).c0
    have HOWNI:=jh hown
    clear hown
    by_cases hql:q<n
    ·have hdq:decide ((q:Int)<(n:Int))=true:=by simp;omega
     have hqi:(q:Int)<(n:Int):=by omega
     have hq40:(q:Int)<40:=by omega
     have hm1:=(HB.out.below hbi HB.out.lt).ci k q (by omega) (by omega)
     cases hx:M k q
     ·rw[hx] at hm1
      have HX:=jh hx
      clear hx
      go_wp2_with fail
      go_roundw
      case rel=>
       refine⟨q+1,by omega,by go_num,?_,hbi⟩
       rw[Zpy M k q HX.out];exact HOWNI.out
      case measure=>simp[intOf];omega
     ·rw[hx] at hm1
      have HX:=jh hx
      clear hx
      go_wp2_with (first
       | (at_builtin;refine wpList_append_own _ rfl (.tmp 30) (.tmp 34) 25 rfl w.heap.size 56 i0 (.agg #[.int .i64 0,.int .i64 0]) 2 16 Tryz.underlying25 hi hz0 hz1 hz2 rfl (by decide) _ _ _ rfl (HOWNI.out.alloc _) ⟨wr.heap.size,0,none⟩ 1 1 [.int .i64 k,.int .i64 q] rfl rfl (World.news_of_block (cs:=#[.int .i64 k,.int .i64 q]) (t:=56) (fr:=(0,0)) (heap_alloc_new wr _)) (by simp[Value.oneCell']) (by unfold maxLen;omega) (by omega) (by simp;omega) ?_;intro v1 w1 hown1 hgrow1 hnil1;have HO1:=jh hown1;have HG1:=jh hgrow1;clear hown1 hgrow1 hnil1))
      go_roundw
      case rel=>
       refine⟨q+1,by omega,by go_num,?_,?_⟩
       ·rw[Zmw M k q HX.out,<- List.append_assoc,Zbj,List.length_append]
        exact HO1.out
       ·exact(hbi.alloc hsz _).grown HG1.out (by simp;omega) (fun j hj=>(HOWNI.out.lt j hj).1)
      case measure=>simp[intOf];omega
    ·have hqN:q=n:=by omega
     have HQ:=jh hqN
     have hdq:decide ((q:Int)<(n:Int))=false:=by simp;omega
     clear hqN
     go_wp2_with fail
     go_roundw
     case rel=>
      refine⟨k+1,by omega,by go_num,?_,hbi⟩
      have h1:=HOWNI.out
      rw[HQ.out] at h1
      rw[Zhx];exact h1
     case measure=>simp[intOf];omega
  ·have hkN:k=n:=by omega
   have HKN:=jh hkN
   have hdk:decide ((k:Int)<(n:Int))=false:=by simp;omega
   have HOWN:=jh hown
   clear hkN hown
   go_wp2_with fail
   go_ret
   refine⟨_,rfl,?_,hbe⟩
   have h1:=HOWN.out
   rw[HKN.out] at h1
   exact h1
theorem Yfb (b n c m:Nat) (M S:Nat->Nat->Bool) (w:World) (hb:RAt w b n M) (hc:RAt w c m S) (hn:n<=40) (hm:m<=40) (x:Bool)
  (hx:(((Zay (max n m) (Zdr (max n m) fun i j=>M i j&&!S i j)).length:Int)==0)=x) :
  Calls Tryz.prog 198 #[.pointer (some ⟨b,0,none⟩),.pointer (some ⟨c,0,none⟩)] w fun e w'=>e=.returned (.bool x)/\Below w.heap.size w w':=by
 have H1:=jh (Zog b n c m M S w hb hc hn hm)
 have hN:max n m<=40:=by omega
 generalize max n m=N at *
 clear hb hc hn hm
 generalize (Zdr N fun i j=>M i j&&!S i j)=X at *
 go_enter Tryz.func198,Tryz.ntmps198
 go_wp2_with fail
 refine H1.out.mono ?_
 rintro e w1 ⟨rfl,hat,hbe1⟩
 have HAT:=jh hat
 clear hat
 go_wp2_with fail
 refine(Zim _ N X w1 HAT.out hN).mono ?_
 rintro e w2 ⟨v,rfl,hown,hbe2⟩
 obtain⟨pa,pc,rfl⟩:=Yf6 hown
 have HB2:=jh (Zab hbe1 hbe2)
 clear hown hbe1 hbe2
 go_wp2_with fail
 go_ret
 exact⟨rfl,HB2.out⟩
theorem Zs8 (b n:Nat) (M:Nat->Nat->Bool) (w:World) (hb:RAt w b n M) (hn:n<=40) (hW:WFM n M) (x:Bool) (hx:x=true↔∃ a,a<n/\Zg9 M a a) :
  Calls Tryz.prog 120 #[.pointer (some ⟨b,0,none⟩)] w fun e w'=>e=.returned (.bool x)/\Below w.heap.size w w':=by
 have H1:=jh (Zod b n M w hb hn hW)
 have HX:=jh hx
 clear hb hW hx
 go_enter Tryz.func120,Tryz.ntmps120
 go_wp2_with fail
 refine H1.out.mono ?_
 rintro e w1 ⟨T,rfl,hat,hT,_,hbe⟩
 have HAT:=jh hat
 have HTT:=jh hT
 have hr0:=hat.c0
 clear hat hT
 go_wp2_with fail
 go_loop [4] (fun y=>∃ k:Nat,k<=n/\y=.int .i64 k/\Hid (∀ a,a<k->T a a=false)) (fun y=>n-(intOf y).toNat)
 case atStart=>exact⟨0,Nat.zero_le _,rfl,fun a ha=>absurd ha (by omega)⟩
 case round=>
  obtain⟨k,hk,rfl,hno⟩:=hrel
  by_cases hlt:k<n
  ·have hdk:decide ((k:Int)<(n:Int))=true:=by simp;omega
   have hki:(k:Int)<(n:Int):=by omega
   have hk40:(k:Int)<40:=by omega
   have hd:=HAT.out.ci k k (by omega) (by omega)
   cases hb:T k k
   ·rw[hb] at hd
    have HB:=jh hb
    clear hb
    go_wp2_with fail
    go_round
    case rel=>
     refine⟨k+1,by omega,by go_num,?_⟩
     intro a ha
     by_cases e:a=k
     ·subst e;exact HB.out
     ·exact hno.out a (by omega)
    case measure=>simp[intOf];omega
   ·rw[hb] at hd
    have HF:=jh (HX.out.2 ⟨k,hlt,(HTT.out k k).1 hb⟩)
    clear hb
    go_wp2_with fail
    go_ret
    exact⟨by rw[HF.out];rfl,hbe⟩
  ·have hdk:decide ((k:Int)<(n:Int))=false:=by simp;omega
   have HF:Hid (x=false):=by
    show _=_
    rw[<- Bool.not_eq_true,HX.out]
    rintro⟨a,ha,hp⟩
    have h1:=(HTT.out a a).2 hp
    rw[hno.out a (by omega)] at h1;cases h1
   go_wp2_with fail
   go_ret
   exact⟨by rw[HF.out];rfl,hbe⟩
end
section
attribute [local irreducible] RelA.rcells
theorem Ykk (L:List (Nat×Nat)) (a1 a2:Option Addr) (c1 c2:Nat) (w:World) (h1:PairsRd w a1 L) (h2:PairsRd w a2 L) (hL:L.length<=100000) :
  Calls Tryz.prog 83 #[.slice a1 L.length c1,.slice a2 L.length c2] w fun e w'=>e=.returned (.bool true)/\Below w.heap.size w w':=by
 have H1:=jh h1
 have H2:=jh h2
 clear h1 h2
 go_enter Tryz.func83,Tryz.ntmps83
 go_wp2_with fail
 go_loopw [5] (fun x wr=>∃ k:Nat,k<=L.length/\x=.int .i64 k/\Below w.heap.size w wr) (fun x _=>L.length-(intOf x).toNat)
 case atStart=>exact⟨0,Nat.zero_le _,rfl,Below.refl _ _⟩
 case round=>
  obtain⟨k,hk,rfl,hbe⟩:=hrel
  by_cases hlt:k<L.length
  ·have hdk:decide ((k:Int)<(L.length:Int))=true:=by simp;omega
   have hki:(k:Int)<(L.length:Int):=by omega
   rcases (H1.out.next hbe) with h0 | ⟨g1,rfl,hg1,hc1⟩
   ·rw[h0] at hlt;simp at hlt
   ·rcases (H2.out.next hbe) with h0 | ⟨g2,rfl,hg2,hc2⟩
    ·rw[h0] at hlt;simp at hlt
    ·have e1:=(hc1 k hlt).1
     have e2:=(hc1 k hlt).2
     have e3:=(hc2 k hlt).1
     have e4:=(hc2 k hlt).2
     clear hc1 hc2 hg1 hg2
     generalize (Zdz L).getD k (0,0)=p at *
     obtain⟨pa,pb⟩:=p
     simp only at e1 e2 e3 e4
     go_wp2_with fail
     go_region
     go_wp2_with fail
     go_roundw
     case rel=>exact⟨k+1,by omega,by go_num,hbe.drew⟩
     case measure=>simp[intOf];omega
  ·have hdk:decide ((k:Int)<(L.length:Int))=false:=by simp;omega
   go_wp2_with fail
   go_ret
   exact⟨rfl,hbe⟩
section
attribute [local go_sem ↓] Go.wp_at_zero Go.wp_at_succ
end
end
end Go.Proofs.YthcnhbclagegeaaGreatDoor
