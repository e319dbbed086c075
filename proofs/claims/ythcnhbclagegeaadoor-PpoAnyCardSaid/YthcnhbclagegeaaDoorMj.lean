/-
  What the functions that the law reaches do, one by one: contracts. Conditions: Zcj that each of them prints.
-/
import Derived.Test.YthcnhbclagegeaaDoorMi
import Derived.BigRegion
namespace Go.Proofs.YthcnhbclagegeaaDoor
open Go.RowKit RelA
attribute [local irreducible] RelA.rcells
namespace RelA
structure ROk (g:Gr):Prop where
 rlen:g.R.length=g.n
 rlt:∀ i,i < g.R.length->g.R.getD i 0 < (g.n:Int)
 clt:∀ l,l < g.C.length->∀ i,i < (g.C.getD l Ls.zero).L.length->0<=(g.C.getD l Ls.zero).L.getD i 0/\(g.C.getD l Ls.zero).L.getD i 0 < (g.n:Int)
theorem Zsp (n:Nat) (l:List (Int × Int)) (p:Int × Int):ofM n (l ++ [p])=Zhy n (ofM n l) p:=by
 unfold ofM Zhz
 rw [List.foldl_append]; rfl
theorem Zsg {n:Nat} {M:Nat->Nat->Bool} {a b:Nat} (ha:a < n) (hb:b < n):Zhy n M ((a:Int),(b:Int))=Zob M a b true:=by
 unfold Zhy inB
 have h1:decide (0<=(a:Int)/\(a:Int) < (n:Int))=true:=by simp; omega
 have h2:decide (0<=(b:Int)/\(b:Int) < (n:Int))=true:=by simp; omega
 rw [h1,h2]; rfl
theorem Zzc {n:Nat} {M:Nat->Nat->Bool} {a b:Int} (ha:a < 0):Zhy n M (a,b)=M:=by
 unfold Zhy inB
 have h1:decide (0<=a/\a < (n:Int))=false:=by simp; omega
 rw [h1]; rfl
theorem Zjs (n:Nat) (l:List (Int × Int)):WFM n (ofM n l):=Zrn n l
end RelA
set_option maxRecDepth 20000 in
set_option maxHeartbeats 3200000 in
theorem Yy1 (g:Gr) (w:World) (h:NsIn w g.ra g.R) (he:g.E.length<=40) (hk:ROk g) :
  Calls Tryd.prog 50 #[g.v] w (Zeq g.n (rfM g) w):=by
 have hF:rfM g=ofM g.n (rfL g.R g.R.length):=rfl
 rw [hF]
 clear hF
 obtain ⟨hrlen,hrlt,_⟩:=hk
 have HG0:=Lib.hid (GBox.of_alloc w g 28)
 obtain ⟨G,hG⟩:∃ G,G=g:=⟨_,rfl⟩
 obtain ⟨locs,ea,E,ec,ra,R,rc,ca,C,cc,ma,Rmw,mc,da,Data,dc,ta,Ctrl,tc,ia,CtrlI,ic⟩:=g
 simp only [Gr.v,Gr.n,Zbv] at he h hrlen hrlt HG0 ⊢
 rw [<- hG] at HG0
 have HI:=Lib.hid h
 have HLT:=Lib.hid hrlt
 have hrle:R.length<=E.length:=by omega
 clear h hrlt hrlen
 go_enter Tryd.func50,Tryd.ntmps50
 go_wp2_with fail
 obtain ⟨w1,hw1⟩:∃ x,x=w.alloc (Obj.cells #[.int .i64 locs,.slice ea E.length ec,.slice ra R.length rc,.slice ca C.length cc,.slice ma Rmw.length mc,.slice da Data.length dc,.slice ta Ctrl.length tc,.slice ia CtrlI.length ic] 28 (0,0)):=⟨_,rfl⟩
 rw [<- hw1] at HG0 ⊢
 have hs1:w1.heap.size=w.heap.size + 1:=by rw [hw1]; simp
 have HB1:Hid (Below w.heap.size w w1):=Lib.hid (by rw [hw1]; exact (Below.refl _ _).alloc (Nat.le_refl _) _)
 clear hw1
 have HI1:=Lib.hid (HI.out.next HB1.out)
 clear HI hs1
 refine (Zh6 E.length w1 he).mono ?_
 rintro e w2 ⟨rfl,hat,hbe1⟩
 have HAT1:=Lib.hid hat
 have HBE1:=Lib.hid hbe1
 clear hat hbe1
 go_wp2_with fail
 go_loopw [4] (fun x wr=>∃ k:Nat,k<=R.length/\x=.int .i64 k/\RAt wr w1.heap.size E.length (ofM E.length (rfL R k))/\Below w1.heap.size w1 wr) (fun x _=>R.length - (intOf x).toNat)
 case atStart=>exact ⟨0,Nat.zero_le _,rfl,HAT1.out,HBE1.out⟩
 case round=>
  obtain ⟨k,hk,rfl,hat,hbe⟩:=hrel
  obtain ⟨c0,c1,c2,c3,c4,c5,c6,c7⟩:=HG0.out.next hbe
  rw [hG] at c0 c1 c2 c3 c4 c5 c6 c7
  dsimp only at c0 c1 c2 c3 c4 c5 c6 c7
  clear c0 c1 c3 c4 c5 c6 c7
  by_cases hlt:k < R.length
  ·have hr0:=hat.c0
   have hdk:decide ((k:Int) < (R.length:Int))=true:=by simp; omega
   have hki:(k:Int) < (R.length:Int):=by omega
   have hk40:(k:Int) < 40:=by omega
   have hrl:=HLT.out k hlt
   have HS:=Lib.hid (by rw [Zsh,Zsp]:ofM E.length (rfL R (k + 1))=Zhy E.length (ofM E.length (rfL R k)) (R.getD k 0,(k:Int)))
   rcases HI1.out.next hbe with h0 | ⟨b,o,rfl,hbl,hcc⟩
   ·rw [h0] at hlt; simp at hlt
   ·have d0:=hcc k hlt
    clear hcc
    generalize R.getD k 0=r at *
    by_cases hr:0<=r
    ·obtain ⟨m,rfl⟩:=Int.eq_ofNat_of_zero_le hr
     have hm:m < E.length:=by omega
     have hm40:(m:Int) < 40:=by omega
     have hge:decide ((0:Int)<=(m:Int))=true:=by simp
     have hd:=hat.ci m k (by omega) (by omega)
     have hfz:=hat.frozen (1 + m * 40 + k)
     have HAT:=Lib.hid hat
     rw [Zsg hm (by omega)] at HS
     have hs3:=hbe.size
     clear hat hr hrl
     go_wp2_with fail
     go_region
     go_wp2_with fail
     go_roundw
     case rel=>
      refine ⟨k + 1,by omega,by go_num,?_,(hbe.setCell (Nat.le_refl _) _).drew⟩
      have h1:=HAT.out.set m k true (by omega) (by omega)
      rw [<- HS.out] at h1
      exact h1.drew
     case measure=>simp [intOf]; omega
    ·have hge:decide ((0:Int)<=r)=false:=by simp; omega
     rw [Zzc (by omega)] at HS
     have HAT:=Lib.hid hat
     clear hat hrl
     go_wp2_with fail
     go_roundw
     case rel=>exact ⟨k + 1,by omega,by go_num,by rw [HS.out]; exact HAT.out,hbe⟩
     case measure=>simp [intOf]; omega
  ·have hkN:k=R.length:=by omega
   subst hkN
   have hdk:decide ((R.length:Int) < (R.length:Int))=false:=by simp
   have HAT:=Lib.hid hat
   have HBf:=Lib.hid (Zab HB1.out hbe)
   clear hat
   go_wp2_with fail
   go_ret
   exact ⟨_,rfl,⟨HAT.out,Zjs _ _⟩,HB1.out.size,HBf.out⟩
namespace RelA
def ptM (E:List Ev) (M:Nat->Nat->Bool) (one:Bool):Nat->Nat->Bool:=fun i j=>M i j && (((Ev.at E i).th == (Ev.at E j).th) == one)
theorem Ylx (E:List Ev) (M:Nat->Nat->Bool):ptM E M true=Zcl E M:=by
 funext i j; unfold ptM Zcl; cases ((Ev.at E i).th == (Ev.at E j).th) <;> rfl
theorem Ydl (E:List Ev) (M:Nat->Nat->Bool):ptM E M false=Zd9 E M:=by
 funext i j; unfold ptM Zd9; cases ((Ev.at E i).th == (Ev.at E j).th) <;> rfl
theorem Yyr {n:Nat} {E:List Ev} {M:Nat->Nat->Bool} {one:Bool} (h:WFM n M):WFM n (ptM E M one):=fun i j a=>by
 unfold ptM at a; rw [Bool.and_eq_true] at a; exact h i j a.1
end RelA
set_option maxRecDepth 20000 in
set_option maxHeartbeats 3200000 in
theorem Zxx (g:Gr) (rb:Nat) (M:Nat->Nat->Bool) (one:Bool) (w:World) (h:EsIn w g.ea g.E) (he:g.E.length<=40) (hr:Rr w rb g.n M) :
  Calls Tryd.prog 102 #[g.v,.pointer (some ⟨rb,0,none⟩),.bool one] w (Zeq g.n (ptM g.E M one) w):=by
 have HG0:=Lib.hid (GBox.of_alloc w g 28)
 obtain ⟨G,hG⟩:∃ G,G=g:=⟨_,rfl⟩
 obtain ⟨locs,ea,E,ec,ra,R,rc,ca,C,cc,ma,Rmw,mc,da,Data,dc,ta,Ctrl,tc,ia,CtrlI,ic⟩:=g
 simp only [Gr.v,Gr.n,Zbv] at he h hr HG0 ⊢
 rw [<- hG] at HG0
 have HI:=Lib.hid h
 have HR:=Lib.hid hr.at_
 have HW:Hid (WFM E.length (ptM E M one)):=Lib.hid (Yyr hr.wf)
 clear h hr
 go_enter Tryd.func102,Tryd.ntmps102
 have hR0:=fun o=>((HR.out.alloc o).c0)
 go_wp2_with fail
 obtain ⟨w1,hw1⟩:∃ x,x=w.alloc (Obj.cells #[.int .i64 locs,.slice ea E.length ec,.slice ra R.length rc,.slice ca C.length cc,.slice ma Rmw.length mc,.slice da Data.length dc,.slice ta Ctrl.length tc,.slice ia CtrlI.length ic] 28 (0,0)):=⟨_,rfl⟩
 rw [<- hw1] at HG0 ⊢
 have hs1:w1.heap.size=w.heap.size + 1:=by rw [hw1]; simp
 have HB1:Hid (Below w.heap.size w w1):=Lib.hid (by rw [hw1]; exact (Below.refl _ _).alloc (Nat.le_refl _) _)
 clear hw1
 clear hR0
 have HI1:=Lib.hid (HI.out.next HB1.out)
 have HR1:=Lib.hid (HR.out.next HB1.out)
 clear HI hs1 HR
 refine (Zh6 E.length w1 he).mono ?_
 rintro e w2 ⟨rfl,hat,hbe1⟩
 have HAT1:=Lib.hid hat
 have HBE1:=Lib.hid hbe1
 clear hat hbe1
 go_wp2_with fail
 go_loopw [8] (fun x wr=>∃ k:Nat,k<=E.length/\x=.int .i64 k/\RAt wr w1.heap.size E.length (Zct E.length k 0 (ptM E M one))/\Below w1.heap.size w1 wr) (fun x _=>E.length - (intOf x).toNat)
 case atStart=>exact ⟨0,Nat.zero_le _,rfl,HAT1.out.congr fun i j _ _=>(Zcy _ _ i j).symm,HBE1.out⟩
 case round=>
  obtain ⟨k,hk,rfl,hat,hbe⟩:=hrel
  have hr0:=(HR1.out.next hbe).c0
  obtain ⟨c0,c1,c2,c3,c4,c5,c6,c7⟩:=HG0.out.next hbe
  rw [hG] at c0 c1 c2 c3 c4 c5 c6 c7
  dsimp only at c0 c1 c2 c3 c4 c5 c6 c7
  clear c0 c2 c3 c4 c5 c6 c7
  by_cases hlt:k < E.length
  ·obtain ⟨wo,rfl⟩:∃ wo:World,wo=wr:=⟨_,rfl⟩
   have hdk:decide ((k:Int) < (E.length:Int))=true:=by simp; omega
   have hki:(k:Int) < (E.length:Int):=by omega
   have hk40:(k:Int) < 40:=by omega
   have HAT:=Lib.hid hat
   clear hat
   go_wp2_with fail
   clear hr0 c1
   go_loopw [9] (fun x wi=>∃ q:Nat,q<=E.length/\x=.int .i64 q/\RAt wi w1.heap.size E.length (Zct E.length k q (ptM E M one))/\Below w1.heap.size w1 wi) (fun x _=>E.length - (intOf x).toNat)
   case atStart=>exact ⟨0,Nat.zero_le _,rfl,HAT.out,hbe⟩
   case round=>
    obtain ⟨q,hq,rfl,hati,hbi⟩:=hrel
    have hr0:=(HR1.out.next hbi).c0
    obtain ⟨c0,c1,c2,c3,c4,c5,c6,c7⟩:=HG0.out.next hbi
    rw [hG] at c0 c1 c2 c3 c4 c5 c6 c7
    dsimp only at c0 c1 c2 c3 c4 c5 c6 c7
    clear c0 c2 c3 c4 c5 c6 c7
    by_cases hql:q < E.length
    ·have hdq:decide ((q:Int) < (E.length:Int))=true:=by simp; omega
     have hqi:(q:Int) < (E.length:Int):=by omega
     have hq40:(q:Int) < 40:=by omega
     have hd:=hati.ci k q (by omega) (by omega)
     rw [Ze2] at hd
     have hm:=(HR1.out.next hbi).ci k q (by omega) (by omega)
     have hfz:=hati.frozen (1 + k * 40 + q)
     have HATI:=Lib.hid hati
     have HST:=Lib.hid (Zcz E.length k q (ptM E M one))
     have hX:ptM E M one k q=(M k q && (((Ev.at E k).th == (Ev.at E q).th) == one)):=rfl
     clear hati
     rcases HI1.out.next hbi with h0 | ⟨b,o,rfl,hbl,hcc⟩
     ·rw [h0] at hlt; simp at hlt
     ·have d0:=(hcc k hlt).c0
      have d1:=(hcc q hql).c0
      clear hcc
      change _=some (Value.int _ (Ev.at E k).th) at d0
      change _=some (Value.int _ (Ev.at E q).th) at d1
      generalize (Ev.at E k).th=x at *
      generalize (Ev.at E q).th=y at *
      generalize M k q=mv at *
      cases mv
      ·have HX:Hid (ptM E M one k q=false):=Lib.hid (by rw [hX]; rfl)
       clear hX
       go_wp2_with fail
       go_region
       go_wp2_with fail
       go_roundw
       case rel=>
        refine ⟨q + 1,by omega,by go_num,?_,(hbi.setCell (Nat.le_refl _) _).drew⟩
        have h2:=(RAt.congr (HATI.out.set k q _ (by omega) (by omega)) fun i j _ _=>HST.out i j).drew
        rw [HX.out] at h2
        exact h2
       case measure=>simp [intOf]; omega
      ·cases e1:(x == y) <;> cases one
       all_goals
        rw [e1,Bool.true_and] at hX
        have HX:=Lib.hid hX
        clear hX
        go_wp2_with fail
        go_region
        go_wp2_with fail
        go_roundw
        case rel=>
         refine ⟨q + 1,by omega,by go_num,?_,(hbi.setCell (Nat.le_refl _) _).drew⟩
         have h2:=(RAt.congr (HATI.out.set k q _ (by omega) (by omega)) fun i j _ _=>HST.out i j).drew
         rw [HX.out] at h2
         exact h2
        case measure=>simp [intOf]; omega
    ·have hqN:q=E.length:=by omega
     have HQ:=Lib.hid hqN
     have hdq:decide ((q:Int) < (E.length:Int))=false:=by simp; omega
     have HATI:=Lib.hid hati
     clear hqN hati
     go_wp2_with fail
     go_roundw
     case rel=>
      refine ⟨k + 1,by omega,by go_num,?_,hbi⟩
      have h1:=HATI.out
      rw [HQ.out] at h1
      exact h1.congr fun i j _ _=>Zd0 E.length k _ i j
     case measure=>simp [intOf]; omega
  ·have hkN:k=E.length:=by omega
   have HKN:=Lib.hid hkN
   have hdk:decide ((k:Int) < (E.length:Int))=false:=by simp; omega
   have HAT:=Lib.hid hat
   have HBf:=Lib.hid (Zab HB1.out hbe)
   clear hkN hat
   go_wp2_with fail
   go_ret
   exact ⟨_,rfl,⟨HAT.out.congr fun i j _ _=>(Zc0 E.length k _ HKN.out i j).trans (Zic HW.out i j),HW.out⟩,HB1.out.size,HBf.out⟩
end Go.Proofs.YthcnhbclagegeaaDoor
