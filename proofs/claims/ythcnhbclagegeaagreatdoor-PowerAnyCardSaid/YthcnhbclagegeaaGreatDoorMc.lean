/-
  What the functions that the law reaches do, one by one: contracts. Conditions: those that each of them prints.
-/
import Derived.Test.YthcnhbclagegeaaGreatDoorMb
import Derived.StillTailTactics
import Derived.BigRegion
import Derived.Laws.CopyRow
set_option maxRecDepth 20000
set_option maxHeartbeats 3200000
namespace Go.Proofs.YthcnhbclagegeaaGreatDoor
open Go.RowKit RelA
section
namespace RelA
def rcells (n:Nat) (M:Nat->Nat->Bool):Array Value:=(Value.int .i64 n::(List.range 1600).map fun k=>Value.bool (M (k / 40) (k % 40))).toArray
def RAt (w:World) (b n:Nat) (M:Nat->Nat->Bool):Prop:=w.heap[b]?=some (.cells (rcells n M) 76 (0,0))
theorem RAt.c0 {w:World} {b n:Nat} {M:Nat->Nat->Bool} (h:RAt w b n M):w.cell? ⟨b,0,none⟩=some (.int .i64 n):=by
 rw[cell_of_row w b 0 _ _ _ h];rfl
theorem Ztb (n:Nat) (M:Nat->Nat->Bool) (i j:Nat) (hi:i<40) (hj:j<40):(rcells n M)[1+i*40+j]?=some (.bool (M i j)):=by
 have e:1+i*40+j=(i*40+j)+1:=by omega
 have h1:i*40+j<1600:=by omega
 have h2:(i*40+j) / 40=i:=by omega
 have h3:(i*40+j) % 40=j:=by omega
 rw[e]
 unfold rcells
 simp[h1,h2,h3]
theorem RAt.ci {w:World} {b n:Nat} {M:Nat->Nat->Bool} (h:RAt w b n M) (i j:Nat) (hi:i<40) (hj:j<40):w.cell? ⟨b,1+i*40+j,none⟩=some (.bool (M i j)):=by
 rw[cell_of_row w b _ _ _ _ h];exact Ztb n M i j hi hj
theorem RAt.lt {w:World} {b n:Nat} {M:Nat->Nat->Bool} (h:RAt w b n M):b<w.heap.size:=block_lt_of_cell h.c0
theorem RAt.below {w w':World} {B b n:Nat} {M:Nat->Nat->Bool} (h:RAt w b n M) (hB:Below B w w') (hb:b<B):RAt w' b n M:=by
 unfold RAt;rw[hB.block b hb];exact h
theorem RAt.next {w w':World} {b n:Nat} {M:Nat->Nat->Bool} (h:RAt w b n M) (hb:Below w.heap.size w w'):RAt w' b n M:=h.below hb h.lt
theorem RAt.drew {w:World} {b n:Nat} {M:Nat->Nat->Bool} (h:RAt w b n M):RAt w.drew b n M:=h
theorem RAt.alloc {w:World} {b n:Nat} {M:Nat->Nat->Bool} (h:RAt w b n M) (o:Obj):RAt (w.alloc o) b n M:=
 h.below ((Below.refl w.heap.size w).alloc (Nat.le_refl _) o) h.lt
theorem RAt.frozen {w:World} {b n:Nat} {M:Nat->Nat->Bool} (h:RAt w b n M) (j:Nat):w.frozen? ⟨b,j,none⟩=false:=frozen_of_row w b j _ _ h
def Zkw (M:Nat->Nat->Bool) (i j:Nat) (x:Bool):Nat->Nat->Bool:=fun a b=>if a=i/\b=j then x else M a b
theorem RAt.congr {w:World} {b n:Nat} {M S:Nat->Nat->Bool} (h:RAt w b n M) (e:∀ i j,i<40->j<40->M i j=S i j):RAt w b n S:=by
 have h1:(List.range 1600).map (fun k=>Value.bool (M (k / 40) (k % 40)))=(List.range 1600).map (fun k=>Value.bool (S (k / 40) (k % 40))):=
  List.map_congr_left fun k hk=>by
   have:=List.mem_range.1 hk
   rw[e (k / 40) (k % 40) (by omega) (by omega)]
 have:rcells n M=rcells n S:=by
  unfold rcells;rw[h1]
 unfold RAt;rw[<- this];exact h
theorem Zze (v x:Value) (l:List Value) (k:Nat):(v::l).toArray.setIfInBounds (k+1) x=(v::l.set k x).toArray:=by
 apply Array.ext'
 rw[Array.toList_setIfInBounds]
 rfl
theorem Zta (n:Nat) (M:Nat->Nat->Bool) (i j:Nat) (x:Bool) (hi:i<40) (hj:j<40):(rcells n M).setIfInBounds (1+i*40+j) (.bool x)=rcells n (Zkw M i j x):=by
 have e:1+i*40+j=(i*40+j)+1:=by omega
 rw[e]
 unfold rcells
 rw[Zze]
 have key:((List.range 1600).map fun k=>Value.bool (M (k / 40) (k % 40))).set (i*40+j) (.bool x)=(List.range 1600).map fun k=>Value.bool (Zkw M i j x (k / 40) (k % 40)):=by
  apply List.ext_getElem?
  intro k
  rw[List.getElem?_set]
  by_cases ek:i*40+j=k
  ·subst ek
   have h1:i*40+j<1600:=by omega
   have h2:(i*40+j) / 40=i:=by omega
   have h3:(i*40+j) % 40=j:=by omega
   simp[h1,Zkw,h2,h3]
  ·rw[if_neg ek]
   by_cases hk:k<1600
   ·have:¬ (k / 40=i/\k % 40=j):=by omega
    simp[hk,Zkw,this]
   ·simp[hk]
 rw[key]
theorem RAt.set {w:World} {b n:Nat} {M:Nat->Nat->Bool} (h:RAt w b n M) (i j:Nat) (x:Bool) (hi:i<40) (hj:j<40):RAt (w.setCell ⟨b,1+i*40+j,none⟩ (.bool x)) b n (Zkw M i j x):=by
 unfold RAt
 rw[heap_setCell_same w b (1+i*40+j) (rcells n M) 76 _ h,Zta n M i j x hi hj]
def Zjr (x:Value):Sem Next:=do pure (.value (<- Instr.build 76 #[(0,x)]))
theorem execOp_build_ref (a:Act) (dst:Option Tmp) (x:Operand) (ty:TypeId) (pos:String) (after:Array Edge) (guard:Option (Nat×Bool)) :
  execOp a.eval { dst,op:=.build 76 #[(0,x)],type:=ty,pos,after,guard }=Zjr (a.eval x):=by
 simp[execOp,Zjr]
def Yom (n:Int):Array Value:=(Value.int .i64 n::(List.range 1600).map fun _=>Value.bool false).toArray
theorem Zzr (n:Nat):Yom n=rcells n (fun _ _=>false):=rfl
theorem run_buildRef (n:Int) (w:World):(Zjr (.int .i64 n)).run Tryz.prog w=.ok (.value (.agg (Yom n))) w:=by
 unfold Zjr
 rw[Sem.run_bind]
 have:(Instr.build 76 #[(0,.int .i64 n)]).run Tryz.prog w=.ok (.agg (Yom n)) w:=by kernel_rfl
 rw[this];rfl
def Zib (n:Nat) (M:Nat->Nat->Bool) (p:Int×Int):Nat->Nat->Bool:=if inB n p.1&&inB n p.2 then Zkw M p.1.toNat p.2.toNat true else M
def Zic (n:Nat) (l:List (Int×Int)):Nat->Nat->Bool:=l.foldl (Zib n) (fun _ _=>false)
theorem Zs6 (n:Nat) (l:List (Int×Int)) (k:Nat) (h:k<l.length):Zic n (l.take (k+1))=Zib n (Zic n (l.take k)) (l.getD k (0,0)):=by
 unfold Zic
 rw[List.take_succ_eq_append_getElem h,List.foldl_append]
 simp[h]
theorem Xbi (N:Nat) (a b:Int):(0<=a/\0<=b/\a<N/\b<N/\(inB N a&&inB N b)=true)∨(a<0/\(inB N a&&inB N b)=false)∨(0<=a/\b<0/\(inB N a&&inB N b)=false)∨(0<=a/\0<=b/\(N:Int)<=a/\(inB N a&&inB N b)=false)∨(0<=a/\0<=b/\a<N/\(N:Int)<=b/\(inB N a&&inB N b)=false):=by
 unfold inB
 by_cases h1:0<=a
 ·by_cases h2:0<=b
  ·by_cases h3:a<N
   ·by_cases h4:b<N
    ·left;simp[h1,h2,h3,h4]
    ·right;right;right;right;simp[h1,h2,h3,h4];omega
   ·right;right;right;left;simp[h1,h2,h3];omega
  ·right;right;left;simp[h1,h2];omega
 ·right;left;simp[h1];omega
end RelA
section
attribute [local go_sem ↓ high] RelA.execOp_max RelA.execOp_min
attribute [local go_sem ↓] RelA.execOp_build_ref
attribute [local go_sem] RelA.run_maxOp RelA.run_minOp RelA.run_buildRef
theorem Zw9 (n:Int) (lb lo:Nat) (l:List (Int×Int)) (cap:Nat) (w:World) (hm:l.length<=maxLen) (hlb:lb<w.heap.size) (hc:∀ i,i<l.length ->
  w.cell? ⟨lb,lo+i*2,none⟩=some (.int .i64 (l.getD i (0,0)).1)/\w.cell? ⟨lb,lo+i*2+1,none⟩=some (.int .i64 (l.getD i (0,0)).2)) :
  Calls Tryz.prog 101 #[.int .i64 n,.slice (some ⟨lb,lo,none⟩) l.length cap] w fun e w'=>e=.returned (.pointer (some ⟨w.heap.size,0,none⟩))/\RAt w' w.heap.size (Zal n) (Zic (Zal n) l)/\Below w.heap.size w w':=by
 unfold maxLen at hm
 have HC:=jh hc
 clear hc
 have hcn:=Zne n
 have hN:=Zo2 n
 generalize Zal n=N at *
 go_enter Tryz.func101,Tryz.ntmps101
 go_wp2_with fail
 go_loopw [6] (fun i wr=>∃ k:Nat,k<=l.length/\i=.int .i64 k/\RAt wr w.heap.size N (Zic N (l.take k))/\Below w.heap.size w wr) (fun i _=>l.length-(intOf i).toNat)
 case atStart=>exact⟨0,Nat.zero_le _,rfl,heap_alloc_new _ _,jb⟩
 case round=>
  obtain⟨k,hk,rfl,hat,hbe⟩:=hrel
  by_cases hlt:k<l.length
  ·have hcc:=HC.out k hlt
   have hc1:=(hbe.cell (p:=⟨lb,lo+k*2,none⟩) hlb).trans hcc.1
   have hc2:=(hbe.cell (p:=⟨lb,lo+k*2+1,none⟩) hlb).trans hcc.2
   have HT:=jh (Zs6 N l k hlt)
   have hki:(k:Int)<(l.length:Int):=by omega
   have hkd:decide ((k:Int)<(l.length:Int))=true:=by simp;omega
   clear hcc
   generalize Zic N (l.take k)=M at *
   generalize l.getD k (0,0)=p at *
   obtain⟨pa,pb⟩:=p
   simp only at hc1 hc2
   have hr0:=hat.c0
   rcases Xbi N pa pb with⟨g1,g2,g3,g4,g5⟩ | ⟨g1,g5⟩ | ⟨g1,g2,g5⟩ | ⟨g1,g2,g3,g5⟩ | ⟨g1,g2,g3,g4,g5⟩
   ·obtain⟨i,rfl⟩:=Int.eq_ofNat_of_zero_le g1
    obtain⟨j,rfl⟩:=Int.eq_ofNat_of_zero_le g2
    have hi:i<N:=by omega
    have hj:j<N:=by omega
    have hd:=hat.ci i j (by omega) (by omega)
    have hfz:=hat.frozen (1+i*40+j)
    have HAT:=jh hat
    have G5:=jh g5
    clear hat g5
    go_wp2_with fail
    go_region
    go_wp2_with fail
    go_roundw
    case rel=>
     refine⟨k+1,by omega,by go_num,?_,(hbe.drew).setCell (Nat.le_refl _) _⟩
     rw[HT.out];unfold Zib;rw[G5.out]
     exact HAT.out.drew.set i j true (by omega) (by omega)
    case measure=>simp[intOf];omega
   all_goals
    have HAT:=jh hat
    have G5:=jh g5
    clear hat g5
    go_wp2_with fail
    go_region
    go_wp2_with fail
    go_roundw
    case rel=>
     refine⟨k+1,by omega,by go_num,?_,hbe.drew⟩
     rw[HT.out];unfold Zib;rw[G5.out]
     exact HAT.out.drew
    case measure=>simp[intOf];omega
  ·have he:k=l.length:=by omega
   have HE:=jh he
   have hkd:decide ((k:Int)<(l.length:Int))=false:=by simp;omega
   clear he
   have HAT:=jh hat
   clear hat
   go_wp2_with fail
   go_ret
   refine⟨rfl,?_,hbe⟩
   have:=HAT.out
   rw[HE.out,List.take_length] at this
   exact this
theorem Zds (n:Int) (w:World) :
  Calls Tryz.prog 101 #[.int .i64 n,.slice none 0 0] w fun e w'=>e=.returned (.pointer (some ⟨w.heap.size,0,none⟩))/\RAt w' w.heap.size (Zal n) (fun _ _=>false)/\Below w.heap.size w w':=by
 have hcn:=Zne n
 generalize Zal n=N at *
 go_enter Tryz.func101,Tryz.ntmps101
 go_wp2_with fail
 go_loopw [6] (fun i wr=>i=.int .i64 0/\RAt wr w.heap.size N (fun _ _=>false)/\Below w.heap.size w wr) (fun i _=>0)
 case atStart=>exact⟨rfl,heap_alloc_new _ _,jb⟩
 case round=>
  obtain⟨rfl,hat,hbe⟩:=hrel
  have HAT:=jh hat
  clear hat
  go_wp2_with fail
  go_ret
  exact⟨rfl,HAT.out,hbe⟩
end
end
section
namespace RelA
def Zcy (N k q:Nat) (F:Nat->Nat->Bool):Nat->Nat->Bool:=fun i j=>((decide (i<k)&&decide (j<N))||(decide (i=k)&&decide (j<q)))&&F i j
def Zdr (N:Nat) (F:Nat->Nat->Bool):Nat->Nat->Bool:=fun i j=>(decide (i<N)&&decide (j<N))&&F i j
theorem Zc3 (N:Nat) (F:Nat->Nat->Bool) (i j:Nat):Zcy N 0 0 F i j=false:=by simp[Zcy]
theorem Zd6 (N k:Nat) (F:Nat->Nat->Bool) (i j:Nat):Zcy N k N F i j=Zcy N (k+1) 0 F i j:=by
 unfold Zcy
 by_cases h1:i<k
 ·have:i<k+1:=by omega
  have h2:¬ i=k:=by omega
  simp[h1,this,h2]
 ·by_cases h2:i=k
  ·subst h2;simp
  ·have:¬ i<k+1:=by omega
   simp[h1,h2,this]
theorem Zc5 (N k:Nat) (F:Nat->Nat->Bool) (h:k=N) (i j:Nat):Zcy N k 0 F i j=Zdr N F i j:=by
 subst h;simp[Zcy,Zdr]
theorem Zc4 (N k q:Nat) (F:Nat->Nat->Bool) (i j:Nat):Zkw (Zcy N k q F) k q (F k q) i j=Zcy N k (q+1) F i j:=by
 unfold Zkw Zcy
 by_cases h:i=k/\j=q
 ·rw[if_pos h];obtain⟨rfl,rfl⟩:=h;simp
 ·rw[if_neg h]
  by_cases h1:i=k
  ·subst h1
   have h2:¬ j=q:=fun e=>h ⟨rfl,e⟩
   by_cases h3:j<q
   ·have:j<q+1:=by omega
    simp[h3,this]
   ·have:¬ j<q+1:=by omega
    simp[h3,this]
  ·simp[h1]
theorem Ze2 (N k q:Nat) (F:Nat->Nat->Bool):Zcy N k q F k q=false:=by simp[Zcy]
end RelA
section
attribute [local go_sem ↓ high] RelA.execOp_max RelA.execOp_min
attribute [local go_sem] RelA.run_maxOp RelA.run_minOp
theorem Ye7 (b n c m:Nat) (M S:Nat->Nat->Bool) (w:World) (hb:RAt w b n M) (hc:RAt w c m S) (hn:n<=40) (hm:m<=40) :
  Calls Tryz.prog 96 #[.pointer (some ⟨b,0,none⟩),.pointer (some ⟨c,0,none⟩)] w fun e w'=>e=.returned (.pointer (some ⟨w.heap.size,0,none⟩))/\RAt w' w.heap.size (max n m) (Zdr (max n m) fun i j=>M i j||S i j)/\Below w.heap.size w w':=by
 have hb0:=hb.c0
 have hc0:=hc.c0
 have hmx:max (n:Int) (m:Int)=((max n m:Nat):Int):=by omega
 have hN:max n m<=40:=by omega
 have HCL:Hid (Zal ((max n m:Nat):Int)=max n m):=by show Zal _=_;unfold Zal;omega
 generalize max n m=N at *
 have HB:=jh hb
 have HC:=jh hc
 clear hb hc hn hm
 go_enter Tryz.func96,Tryz.ntmps96
 go_wp2_with fail
 refine wp_region_still_tail 9 (by kernel_rfl) (by kernel_rfl) ?_
 simp only[List.take_succ_cons,List.take_zero,List.drop_succ_cons,List.drop_zero]
 show wpStill _ _ w.drew (fun a'=>wpList _ _ _ _ a' w.drew) _ _
 repeat still_step
 refine wpStill_nil ?_
 go_wp2_with fail
 refine(Zds (N:Int) w.drew).mono ?_
 rintro e w1 ⟨rfl,hat,hbe1⟩
 rw[HCL.out] at hat
 have HAT1:Hid (RAt w1 w.heap.size N fun _ _=>false):=hat
 have HB1:Hid (Below w.heap.size w w1):=⟨hbe1.os,hbe1.tape,hbe1.output,hbe1.size,hbe1.block⟩
 clear hat hbe1 hmx HCL
 go_wp2_with fail
 go_loopw [6] (fun x wr=>∃ k:Nat,k<=N/\x=.int .i64 k/\RAt wr w.heap.size N (Zcy N k 0 fun i j=>M i j||S i j)/\Below w.heap.size w wr) (fun x _=>N-(intOf x).toNat)
 case atStart=>exact⟨0,Nat.zero_le _,rfl,HAT1.out.congr fun i j _ _=>(Zc3 _ _ i j).symm,HB1.out⟩
 case round=>
  obtain⟨k,hk,rfl,hat,hbe⟩:=hrel
  by_cases hlt:k<N
  ·obtain⟨wo,rfl⟩:∃ wo:World,wo=wr:=⟨_,rfl⟩
   have hr0:=hat.c0
   have hdk:decide ((k:Int)<(N:Int))=true:=by simp;omega
   have hki:(k:Int)<(N:Int):=by omega
   have HAT:=jh hat
   clear hat
   go_wp2_with fail
   clear hr0
   go_loopw [7] (fun x wi=>∃ q:Nat,q<=N/\x=.int .i64 q/\RAt wi w.heap.size N (Zcy N k q fun i j=>M i j||S i j)/\Below w.heap.size w wi) (fun x _=>N-(intOf x).toNat)
   case atStart=>exact⟨0,Nat.zero_le _,rfl,HAT.out,hbe⟩
   case round=>
    obtain⟨q,hq,rfl,hati,hbi⟩:=hrel
    have hr0:=hati.c0
    by_cases hql:q<N
    ·have hdq:decide ((q:Int)<(N:Int))=true:=by simp;omega
     have hqi:(q:Int)<(N:Int):=by omega
     have hq40:(q:Int)<40:=by omega
     have hk40:(k:Int)<40:=by omega
     have hm1:=(HB.out.below hbi HB.out.lt).ci k q (by omega) (by omega)
     have hm2:=(HC.out.below hbi HC.out.lt).ci k q (by omega) (by omega)
     have hd:=hati.ci k q (by omega) (by omega)
     rw[Ze2] at hd
     have hfz:=hati.frozen (1+k*40+q)
     have HATI:=jh hati
     have HST:=jh (Zc4 N k q fun i j=>M i j||S i j)
     clear hati
     cases hx1:M k q<;>cases hx2:S k q
     all_goals
      rw[hx1] at hm1
      rw[hx2] at hm2
      have HX1:=jh hx1
      have HX2:=jh hx2
      clear hx1 hx2
      go_wp2_with fail
      go_region
      go_wp2_with fail
      go_roundw
      case rel=>
       refine⟨q+1,by omega,by go_num,?_,(hbi.setCell (Nat.le_refl _) _).drew⟩
       have h1:=HATI.out.set k q (M k q||S k q) (by omega) (by omega)
       have h2:=(h1.congr fun i j _ _=>HST.out i j).drew
       rw[HX1.out,HX2.out] at h2
       exact h2
      case measure=>simp[intOf];omega
    ·have hqN:q=N:=by omega
     have HQ:=jh hqN
     have hdq:decide ((q:Int)<(N:Int))=false:=by simp;omega
     have HATI:=jh hati
     clear hqN hati
     go_wp2_with fail
     go_roundw
     case rel=>
      refine⟨k+1,by omega,by go_num,?_,hbi⟩
      have h1:=HATI.out
      rw[HQ.out] at h1
      exact h1.congr fun i j _ _=>Zd6 N k _ i j
     case measure=>simp[intOf];omega
  ·have hkN:k=N:=by omega
   have HKN:=jh hkN
   have hdk:decide ((k:Int)<(N:Int))=false:=by simp;omega
   have hr0:=hat.c0
   have HAT:=jh hat
   clear hkN hat
   go_wp2_with fail
   go_ret
   exact⟨rfl,HAT.out.congr fun i j _ _=>Zc5 N k _ HKN.out i j,hbe⟩
end
section
attribute [local go_sem ↓ high] RelA.execOp_max RelA.execOp_min
attribute [local go_sem] RelA.run_maxOp RelA.run_minOp
theorem Yav (b n c m:Nat) (M S:Nat->Nat->Bool) (w:World) (hb:RAt w b n M) (hc:RAt w c m S) (hn:n<=40) (hm:m<=40) :
  Calls Tryz.prog 109 #[.pointer (some ⟨b,0,none⟩),.pointer (some ⟨c,0,none⟩)] w fun e w'=>e=.returned (.pointer (some ⟨w.heap.size,0,none⟩))/\RAt w' w.heap.size (max n m) (Zdr (max n m) fun i j=>M i j&&S i j)/\Below w.heap.size w w':=by
 have hb0:=hb.c0
 have hc0:=hc.c0
 have hmx:max (n:Int) (m:Int)=((max n m:Nat):Int):=by omega
 have hN:max n m<=40:=by omega
 have HCL:Hid (Zal ((max n m:Nat):Int)=max n m):=by show Zal _=_;unfold Zal;omega
 generalize max n m=N at *
 have HB:=jh hb
 have HC:=jh hc
 clear hb hc hn hm
 go_enter Tryz.func109,Tryz.ntmps109
 go_wp2_with fail
 refine wp_region_still_tail 9 (by kernel_rfl) (by kernel_rfl) ?_
 simp only[List.take_succ_cons,List.take_zero,List.drop_succ_cons,List.drop_zero]
 show wpStill _ _ w.drew (fun a'=>wpList _ _ _ _ a' w.drew) _ _
 repeat still_step
 refine wpStill_nil ?_
 go_wp2_with fail
 refine(Zds (N:Int) w.drew).mono ?_
 rintro e w1 ⟨rfl,hat,hbe1⟩
 rw[HCL.out] at hat
 have HAT1:Hid (RAt w1 w.heap.size N fun _ _=>false):=hat
 have HB1:Hid (Below w.heap.size w w1):=⟨hbe1.os,hbe1.tape,hbe1.output,hbe1.size,hbe1.block⟩
 clear hat hbe1 hmx HCL
 go_wp2_with fail
 go_loopw [6] (fun x wr=>∃ k:Nat,k<=N/\x=.int .i64 k/\RAt wr w.heap.size N (Zcy N k 0 fun i j=>M i j&&S i j)/\Below w.heap.size w wr) (fun x _=>N-(intOf x).toNat)
 case atStart=>exact⟨0,Nat.zero_le _,rfl,HAT1.out.congr fun i j _ _=>(Zc3 _ _ i j).symm,HB1.out⟩
 case round=>
  obtain⟨k,hk,rfl,hat,hbe⟩:=hrel
  by_cases hlt:k<N
  ·obtain⟨wo,rfl⟩:∃ wo:World,wo=wr:=⟨_,rfl⟩
   have hr0:=hat.c0
   have hdk:decide ((k:Int)<(N:Int))=true:=by simp;omega
   have hki:(k:Int)<(N:Int):=by omega
   have HAT:=jh hat
   clear hat
   go_wp2_with fail
   clear hr0
   go_loopw [7] (fun x wi=>∃ q:Nat,q<=N/\x=.int .i64 q/\RAt wi w.heap.size N (Zcy N k q fun i j=>M i j&&S i j)/\Below w.heap.size w wi) (fun x _=>N-(intOf x).toNat)
   case atStart=>exact⟨0,Nat.zero_le _,rfl,HAT.out,hbe⟩
   case round=>
    obtain⟨q,hq,rfl,hati,hbi⟩:=hrel
    have hr0:=hati.c0
    by_cases hql:q<N
    ·have hdq:decide ((q:Int)<(N:Int))=true:=by simp;omega
     have hqi:(q:Int)<(N:Int):=by omega
     have hq40:(q:Int)<40:=by omega
     have hk40:(k:Int)<40:=by omega
     have hm1:=(HB.out.below hbi HB.out.lt).ci k q (by omega) (by omega)
     have hm2:=(HC.out.below hbi HC.out.lt).ci k q (by omega) (by omega)
     have hd:=hati.ci k q (by omega) (by omega)
     rw[Ze2] at hd
     have hfz:=hati.frozen (1+k*40+q)
     have HATI:=jh hati
     have HST:=jh (Zc4 N k q fun i j=>M i j&&S i j)
     clear hati
     cases hx1:M k q<;>cases hx2:S k q
     all_goals
      rw[hx1] at hm1
      rw[hx2] at hm2
      have HX1:=jh hx1
      have HX2:=jh hx2
      clear hx1 hx2
      go_wp2_with fail
      go_region
      go_wp2_with fail
      go_roundw
      case rel=>
       refine⟨q+1,by omega,by go_num,?_,(hbi.setCell (Nat.le_refl _) _).drew⟩
       have h1:=HATI.out.set k q (M k q&&S k q) (by omega) (by omega)
       have h2:=(h1.congr fun i j _ _=>HST.out i j).drew
       rw[HX1.out,HX2.out] at h2
       exact h2
      case measure=>simp[intOf];omega
    ·have hqN:q=N:=by omega
     have HQ:=jh hqN
     have hdq:decide ((q:Int)<(N:Int))=false:=by simp;omega
     have HATI:=jh hati
     clear hqN hati
     go_wp2_with fail
     go_roundw
     case rel=>
      refine⟨k+1,by omega,by go_num,?_,hbi⟩
      have h1:=HATI.out
      rw[HQ.out] at h1
      exact h1.congr fun i j _ _=>Zd6 N k _ i j
     case measure=>simp[intOf];omega
  ·have hkN:k=N:=by omega
   have HKN:=jh hkN
   have hdk:decide ((k:Int)<(N:Int))=false:=by simp;omega
   have hr0:=hat.c0
   have HAT:=jh hat
   clear hkN hat
   go_wp2_with fail
   go_ret
   exact⟨rfl,HAT.out.congr fun i j _ _=>Zc5 N k _ HKN.out i j,hbe⟩
end
section
attribute [local go_sem ↓ high] RelA.execOp_max RelA.execOp_min
attribute [local go_sem] RelA.run_maxOp RelA.run_minOp
theorem Zog (b n c m:Nat) (M S:Nat->Nat->Bool) (w:World) (hb:RAt w b n M) (hc:RAt w c m S) (hn:n<=40) (hm:m<=40) :
  Calls Tryz.prog 142 #[.pointer (some ⟨b,0,none⟩),.pointer (some ⟨c,0,none⟩)] w fun e w'=>e=.returned (.pointer (some ⟨w.heap.size,0,none⟩))/\RAt w' w.heap.size (max n m) (Zdr (max n m) fun i j=>M i j&&!S i j)/\Below w.heap.size w w':=by
 have hb0:=hb.c0
 have hc0:=hc.c0
 have hmx:max (n:Int) (m:Int)=((max n m:Nat):Int):=by omega
 have hN:max n m<=40:=by omega
 have HCL:Hid (Zal ((max n m:Nat):Int)=max n m):=by show Zal _=_;unfold Zal;omega
 generalize max n m=N at *
 have HB:=jh hb
 have HC:=jh hc
 clear hb hc hn hm
 go_enter Tryz.func142,Tryz.ntmps142
 go_wp2_with fail
 refine wp_region_still_tail 9 (by kernel_rfl) (by kernel_rfl) ?_
 simp only[List.take_succ_cons,List.take_zero,List.drop_succ_cons,List.drop_zero]
 show wpStill _ _ w.drew (fun a'=>wpList _ _ _ _ a' w.drew) _ _
 repeat still_step
 refine wpStill_nil ?_
 go_wp2_with fail
 refine(Zds (N:Int) w.drew).mono ?_
 rintro e w1 ⟨rfl,hat,hbe1⟩
 rw[HCL.out] at hat
 have HAT1:Hid (RAt w1 w.heap.size N fun _ _=>false):=hat
 have HB1:Hid (Below w.heap.size w w1):=⟨hbe1.os,hbe1.tape,hbe1.output,hbe1.size,hbe1.block⟩
 clear hat hbe1 hmx HCL
 go_wp2_with fail
 go_loopw [6] (fun x wr=>∃ k:Nat,k<=N/\x=.int .i64 k/\RAt wr w.heap.size N (Zcy N k 0 fun i j=>M i j&&!S i j)/\Below w.heap.size w wr) (fun x _=>N-(intOf x).toNat)
 case atStart=>exact⟨0,Nat.zero_le _,rfl,HAT1.out.congr fun i j _ _=>(Zc3 _ _ i j).symm,HB1.out⟩
 case round=>
  obtain⟨k,hk,rfl,hat,hbe⟩:=hrel
  by_cases hlt:k<N
  ·obtain⟨wo,rfl⟩:∃ wo:World,wo=wr:=⟨_,rfl⟩
   have hr0:=hat.c0
   have hdk:decide ((k:Int)<(N:Int))=true:=by simp;omega
   have hki:(k:Int)<(N:Int):=by omega
   have HAT:=jh hat
   clear hat
   go_wp2_with fail
   clear hr0
   go_loopw [7] (fun x wi=>∃ q:Nat,q<=N/\x=.int .i64 q/\RAt wi w.heap.size N (Zcy N k q fun i j=>M i j&&!S i j)/\Below w.heap.size w wi) (fun x _=>N-(intOf x).toNat)
   case atStart=>exact⟨0,Nat.zero_le _,rfl,HAT.out,hbe⟩
   case round=>
    obtain⟨q,hq,rfl,hati,hbi⟩:=hrel
    have hr0:=hati.c0
    by_cases hql:q<N
    ·have hdq:decide ((q:Int)<(N:Int))=true:=by simp;omega
     have hqi:(q:Int)<(N:Int):=by omega
     have hq40:(q:Int)<40:=by omega
     have hk40:(k:Int)<40:=by omega
     have hm1:=(HB.out.below hbi HB.out.lt).ci k q (by omega) (by omega)
     have hm2:=(HC.out.below hbi HC.out.lt).ci k q (by omega) (by omega)
     have hd:=hati.ci k q (by omega) (by omega)
     rw[Ze2] at hd
     have hfz:=hati.frozen (1+k*40+q)
     have HATI:=jh hati
     have HST:=jh (Zc4 N k q fun i j=>M i j&&!S i j)
     clear hati
     cases hx1:M k q<;>cases hx2:S k q
     all_goals
      rw[hx1] at hm1
      rw[hx2] at hm2
      have HX1:=jh hx1
      have HX2:=jh hx2
      clear hx1 hx2
      go_wp2_with fail
      go_region
      go_wp2_with fail
      go_roundw
      case rel=>
       refine⟨q+1,by omega,by go_num,?_,(hbi.setCell (Nat.le_refl _) _).drew⟩
       have h1:=HATI.out.set k q (M k q&&!S k q) (by omega) (by omega)
       have h2:=(h1.congr fun i j _ _=>HST.out i j).drew
       rw[HX1.out,HX2.out] at h2
       exact h2
      case measure=>simp[intOf];omega
    ·have hqN:q=N:=by omega
     have HQ:=jh hqN
     have hdq:decide ((q:Int)<(N:Int))=false:=by simp;omega
     have HATI:=jh hati
     clear hqN hati
     go_wp2_with fail
     go_roundw
     case rel=>
      refine⟨k+1,by omega,by go_num,?_,hbi⟩
      have h1:=HATI.out
      rw[HQ.out] at h1
      exact h1.congr fun i j _ _=>Zd6 N k _ i j
     case measure=>simp[intOf];omega
  ·have hkN:k=N:=by omega
   have HKN:=jh hkN
   have hdk:decide ((k:Int)<(N:Int))=false:=by simp;omega
   have hr0:=hat.c0
   have HAT:=jh hat
   clear hkN hat
   go_wp2_with fail
   go_ret
   exact⟨rfl,HAT.out.congr fun i j _ _=>Zc5 N k _ HKN.out i j,hbe⟩
end
end
section
namespace RelA
def Zby (M:Nat->Nat->Bool):List Value:=(List.range 1600).map fun k=>Value.bool (M (k / 40) (k % 40))
theorem Zc7 (M:Nat->Nat->Bool):(Zby M).length=1600:=by unfold Zby;rw[List.length_map,List.length_range]
theorem Ztk (M:Nat->Nat->Bool) (k:Nat) (hk:k<1600):(Zby M)[k]?=some (.bool (M (k / 40) (k % 40))):=by
 unfold Zby;rw[List.getElem?_map,List.getElem?_range hk];rfl
theorem Zkg (n:Nat) (M:Nat->Nat->Bool):rcells n M=(Value.int .i64 n::Zby M).toArray:=rfl
theorem Ztj (M:Nat->Nat->Bool) (v:Value) (hv:v∈Zby M):v.oneCell'=true:=by
 unfold Zby at hv
 obtain⟨k,_,rfl⟩:=List.mem_map.1 hv
 rfl
attribute [irreducible] Zby
attribute [local irreducible] rcells
theorem Znj {w:World} {b n:Nat} {M:Nat->Nat->Bool} (h:RAt w b n M):(loadVar 74 ⟨b,1,none⟩).run Tryz.prog w=.ok (.agg (Zby M).toArray) w:=by
 have hl:(loadCells ⟨b,1,none⟩ (Zby M).length).run Tryz.prog w=.ok (Zby M).toArray w:=
  run_loadCells_list (P:=Tryz.prog) w ⟨b,1,none⟩ (Zby M) (fun j v hv=>by
   have hj:j<1600:=by
    have:=(List.getElem?_eq_some_iff.1 hv).1
    rwa [Zc7] at this
   have hadd:(⟨b,1,none⟩:Addr).add j=⟨b,1+j,none⟩:=by unfold Addr.add;simp
   have h2:=h.ci (j / 40) (j % 40) (by omega) (by omega)
   have e:1+j / 40*40+j % 40=1+j:=by omega
   rw[e] at h2
   rw[hadd,h2,<- Ztk M j hj,hv])
 rw[Zc7] at hl
 have hagg:(isAgg 74).run Tryz.prog w=.ok true w:=by kernel_rfl
 have hsz:(sizeOf 74).run Tryz.prog w=.ok 1600 w:=by kernel_rfl
 unfold loadVar
 rw[Sem.run_bind,hagg,Result.andThen_ok]
 show((sizeOf 74 >>= fun m=>loadCells ⟨b,1,none⟩ m) >>= fun cs=>pure (Value.agg cs)).run Tryz.prog w=_
 rw[Sem.run_bind,Sem.run_bind,hsz,Result.andThen_ok,hl]
 rfl
theorem Zh4 {ops:Array Oper} {rest:List Oper} {o:Oper} {a:Act} {w:World} {Q:Exit->Act->World->Prop} (hgd:o.guard=none) (x:Operand) (ho:o.op=.load 74 x)
  (b n:Nat) (M:Nat->Nat->Bool) (hx:a.eval x=.pointer (some ⟨b,1,none⟩)) (hA:RAt w b n M)
  (h:wpList Tryz.prog ops Q rest (a.put o.dst (.agg (Zby M).toArray)) w):wpList Tryz.prog ops Q (o::rest) a w:=
 wpList_plain hgd fun _ hK=>by
  unfold Oper.wp execOp
  simp only[ho,hx,Instr.loadAt,Instr.sureAddr,Sem.run_bind,Sem.run_pure,Result.andThen_ok,Znj hA]
  exact hK _ _ h
theorem Zk4 {w:World} {b n:Nat} {M0:Nat->Nat->Bool} (M:Nat->Nat->Bool) (h:RAt w b n M0):(storeVar 74 ⟨b,1,none⟩ (.agg (Zby M).toArray)).run Tryz.prog w=.ok () (w.setRow b (rcells n M)):=by
 have hsz:(sizeOf 74).run Tryz.prog w=.ok 1600 w:=by kernel_rfl
 have hst:=run_storeCells_at Tryz.prog b 1 76 (Zby M) 0 (rcells n M0) w h (by
  rw[Zc7,Zkg]
  show 1+0+1600<=(Value.int .i64 (n:Int)::Zby M0).length
  rw[List.length_cons,Zc7];omega) (Ztj M)
 have e:((rcells n M0).toList.take (1+0)++Zby M++(rcells n M0).toList.drop (1+0+(Zby M).length)).toArray=rcells n M:=by
  rw[Zc7,Zkg,Zkg]
  have h1:List.drop (1+0+1600) (Value.int .i64 (n:Int)::Zby M0)=[]:=List.drop_eq_nil_of_le (by rw[List.length_cons,Zc7];omega)
  show((Value.int .i64 (n:Int)::Zby M0).take (1+0)++Zby M++(Value.int .i64 (n:Int)::Zby M0).drop (1+0+1600)).toArray=_
  rw[h1,List.append_nil];rfl
 rw[e] at hst
 unfold storeVar
 rw[Sem.run_bind,hsz,Result.andThen_ok]
 have hlen:(Value.agg (Zby M).toArray).cells.size=1600:=Zc7 M
 have hne:¬ ((Value.agg (Zby M).toArray).cells.size≠1600):=by rw[hlen];simp
 rw[if_neg hne]
 exact hst
theorem RAt.setRow {w:World} {b n:Nat} {M0:Nat->Nat->Bool} (M:Nat->Nat->Bool) (h:RAt w b n M0):RAt (w.setRow b (rcells n M)) b n M:=setRow_heap w b _ _ _ _ h
theorem Zpe (w:World) (b:Nat) (cs:Array Value):Below b w (w.setRow b cs):=
 ⟨rfl,rfl,rfl,by simp,fun k hk=>setRow_other w b k cs (by omega)⟩
theorem Zgg {ops:Array Oper} {rest:List Oper} {o:Oper} {a:Act} {w:World} {Q:Exit->Act->World->Prop} (hgd:o.guard=none) (x y:Operand) (ho:o.op=.store 74 x y)
  (b n:Nat) (M0 M:Nat->Nat->Bool) (hx:a.eval x=.pointer (some ⟨b,1,none⟩)) (hy:a.eval y=.agg (Zby M).toArray) (hA:RAt w b n M0)
  (h:∀ w',RAt w' b n M->Below b w w'->wpList Tryz.prog ops Q rest (a.put o.dst undef) w'):wpList Tryz.prog ops Q (o::rest) a w:=
 wpList_plain hgd fun _ hK=>by
  unfold Oper.wp execOp
  simp only[ho,hx,hy,Instr.storeAt,Instr.sureAddr,Sem.run_bind,Sem.run_pure,Result.andThen_ok,Zk4 M hA]
  exact hK _ _ (h _ (hA.setRow M) (Zpe _ _ _))
end RelA
theorem Zxe (b n:Nat) (M:Nat->Nat->Bool) (w:World) (hb:RAt w b n M) (hn:n<=40) :
  Calls Tryz.prog 163 #[.pointer (some ⟨b,0,none⟩)] w fun e w'=>e=.returned (.pointer (some ⟨w.heap.size,0,none⟩))/\RAt w' w.heap.size n (fun i j=>Zdr n M j i)/\Below w.heap.size w w':=by
 have hb0:=hb.c0
 have HCL:Hid (Zal (n:Int)=n):=by show Zal _=_;unfold Zal;omega
 have HB:=jh hb
 clear hb
 go_enter Tryz.func163,Tryz.ntmps163
 go_wp2_with fail
 refine(Zds (n:Int) w).mono ?_
 rintro e w1 ⟨rfl,hat,hbe1⟩
 rw[HCL.out] at hat
 have HAT1:=jh hat
 have HB1:=jh hbe1
 clear hat hbe1 HCL hb0
 go_wp2_with fail
 go_loopw [4] (fun x wr=>∃ k:Nat,k<=n/\x=.int .i64 k/\RAt wr w.heap.size n (fun i j=>Zcy n k 0 M j i)/\Below w.heap.size w wr) (fun x _=>n-(intOf x).toNat)
 case atStart=>exact⟨0,Nat.zero_le _,rfl,HAT1.out.congr fun i j _ _=>(Zc3 _ _ j i).symm,HB1.out⟩
 case round=>
  obtain⟨k,hk,rfl,hat,hbe⟩:=hrel
  by_cases hlt:k<n
  ·obtain⟨wo,rfl⟩:∃ wo:World,wo=wr:=⟨_,rfl⟩
   have hr0:=hat.c0
   have hdk:decide ((k:Int)<(n:Int))=true:=by simp;omega
   have hki:(k:Int)<(n:Int):=by omega
   have HAT:=jh hat
   clear hat
   go_wp2_with fail
   clear hr0
   go_loopw [5] (fun x wi=>∃ q:Nat,q<=n/\x=.int .i64 q/\RAt wi w.heap.size n (fun i j=>Zcy n k q M j i)/\Below w.heap.size w wi) (fun x _=>n-(intOf x).toNat)
   case atStart=>exact⟨0,Nat.zero_le _,rfl,HAT.out,hbe⟩
   case round=>
    obtain⟨q,hq,rfl,hati,hbi⟩:=hrel
    have hr0:=hati.c0
    by_cases hql:q<n
    ·have hdq:decide ((q:Int)<(n:Int))=true:=by simp;omega
     have hqi:(q:Int)<(n:Int):=by omega
     have hq40:(q:Int)<40:=by omega
     have hk40:(k:Int)<40:=by omega
     have hm1:=(HB.out.below hbi HB.out.lt).ci k q (by omega) (by omega)
     have hd:=hati.ci q k (by omega) (by omega)
     rw[Ze2] at hd
     have hfz:=hati.frozen (1+q*40+k)
     have HATI:=jh hati
     have HST:=jh (Zc4 n k q M)
     clear hati
     go_wp2_with fail
     go_region
     go_wp2_with fail
     go_roundw
     case rel=>
      refine⟨q+1,by omega,by go_num,?_,(hbi.setCell (Nat.le_refl _) _).drew⟩
      have h1:=HATI.out.set q k (M k q) (by omega) (by omega)
      exact(h1.congr fun i j _ _=>(by
       have h2:=HST.out j i
       unfold Zkw at h2 ⊢
       rw[<- h2]
       by_cases h3:i=q/\j=k
       ·rw[if_pos h3,if_pos ⟨h3.2,h3.1⟩]
       ·rw[if_neg h3,if_neg (fun h=>h3 ⟨h.2,h.1⟩)])).drew
     case measure=>simp[intOf];omega
    ·have hqN:q=n:=by omega
     have HQ:=jh hqN
     have hdq:decide ((q:Int)<(n:Int))=false:=by simp;omega
     have HATI:=jh hati
     clear hqN hati
     go_wp2_with fail
     go_roundw
     case rel=>
      refine⟨k+1,by omega,by go_num,?_,hbi⟩
      have h1:=HATI.out
      rw[HQ.out] at h1
      exact h1.congr fun i j _ _=>Zd6 n k _ j i
     case measure=>simp[intOf];omega
  ·have hkN:k=n:=by omega
   have HKN:=jh hkN
   have hdk:decide ((k:Int)<(n:Int))=false:=by simp;omega
   have hr0:=hat.c0
   have HAT:=jh hat
   clear hkN hat
   go_wp2_with fail
   go_ret
   exact⟨rfl,HAT.out.congr fun i j _ _=>Zc5 n k _ HKN.out j i,hbe⟩
theorem Zs7 (b n:Nat) (M:Nat->Nat->Bool) (w:World) (hb:RAt w b n M) (hn:n<=40) :
  Calls Tryz.prog 178 #[.pointer (some ⟨b,0,none⟩)] w fun e w'=>e=.returned (.pointer (some ⟨w.heap.size,0,none⟩))/\RAt w' w.heap.size n (fun i j=>(decide (i=j)&&decide (i<n))||M i j)/\Below w.heap.size w w':=by
 have hb0:=hb.c0
 have HCL:Hid (Zal (n:Int)=n):=by show Zal _=_;unfold Zal;omega
 have HB:=jh hb
 clear hb
 go_enter Tryz.func178,Tryz.ntmps178
 go_wp2_with fail
 refine(Zds (n:Int) w).mono ?_
 rintro e w1 ⟨rfl,hat,hbe1⟩
 rw[HCL.out] at hat
 have HAT1:=jh hat
 have HB1:=jh hbe1
 clear hat hbe1 HCL hb0
 go_wp2_with (first
  | (with_reducible refine Zh4 rfl _ rfl b n M rfl (HB.out.next HB1.out) ?_)
  | ((with_reducible refine Zgg rfl _ _ rfl w.heap.size n _ M rfl rfl HAT1.out ?_);intro w2 hat2 hbe2;have HAT2:=jh hat2;have HB2:Hid (Below w.heap.size w w2):=HB1.out.trans hbe2;clear hat2 hbe2))
 go_loopw [4] (fun x wr=>∃ k:Nat,k<=n/\x=.int .i64 k/\RAt wr w.heap.size n (fun i j=>(decide (i=j)&&decide (i<k))||M i j)/\Below w.heap.size w wr) (fun x _=>n-(intOf x).toNat)
 case atStart=>exact⟨0,Nat.zero_le _,rfl,HAT2.out.congr fun i j _ _=>by simp,HB2.out⟩
 case round=>
  obtain⟨k,hk,rfl,hat,hbe⟩:=hrel
  have hr0:=hat.c0
  by_cases hlt:k<n
  ·have hdk:decide ((k:Int)<(n:Int))=true:=by simp;omega
   have hki:(k:Int)<(n:Int):=by omega
   have hk40:(k:Int)<40:=by omega
   have hd:=hat.ci k k (by omega) (by omega)
   have hfz:=hat.frozen (1+k*40+k)
   have HAT:=jh hat
   clear hat
   go_wp2_with fail
   go_roundw
   case rel=>
    refine⟨k+1,by omega,by go_num,?_,hbe.setCell (Nat.le_refl _) _⟩
    have h1:=HAT.out.set k k true (by omega) (by omega)
    refine h1.congr fun i j _ _=>?_
    unfold Zkw
    by_cases h3:i=k/\j=k
    ·rw[if_pos h3];obtain⟨rfl,rfl⟩:=h3;simp
    ·rw[if_neg h3]
     by_cases h4:i=j
     ·subst h4
      have h5:¬ i=k:=fun h=>h3 ⟨h,h⟩
      by_cases h6:i<k
      ·have:i<k+1:=by omega
       simp[h6,this]
      ·have:¬ i<k+1:=by omega
       simp[h6,this]
     ·simp[h4]
   case measure=>simp[intOf];omega
  ·have hkN:k=n:=by omega
   have HKN:=jh hkN
   have hdk:decide ((k:Int)<(n:Int))=false:=by simp;omega
   have HAT:=jh hat
   clear hkN hat
   go_wp2_with fail
   go_ret
   refine⟨rfl,?_,hbe⟩
   have h1:=HAT.out
   rw[HKN.out] at h1
   exact h1
end
section
attribute [local irreducible] RelA.rcells
namespace RelA
def tp (N k q x:Nat) (M S:Nat->Nat->Bool):Nat->Nat->Bool:=fun i j=>
 decide (j<N)&&((decide (i<k)&&(List.range N).any fun b=>M i b&&S b j)||(decide (i=k)&&(((List.range q).any fun b=>M i b&&S b j)||(decide (j<x)&&(M i q&&S q j)))))
def Zph (N:Nat) (M S:Nat->Nat->Bool):Nat->Nat->Bool:=Zdr N fun i j=>(List.range N).any fun b=>M i b&&S b j
theorem Yek (N:Nat) (M S:Nat->Nat->Bool) (i j:Nat):tp N 0 0 0 M S i j=false:=by simp[tp]
theorem Yem (N k q:Nat) (M S:Nat->Nat->Bool) (h:M k q=false) (i j:Nat):tp N k q 0 M S i j=tp N k (q+1) 0 M S i j:=by
 unfold tp
 rw[List.range_succ,List.any_append]
 by_cases e:i=k
 ·subst e;simp[h]
 ·simp[e]
theorem Ykd (N k q:Nat) (M S:Nat->Nat->Bool) (i j:Nat):tp N k q N M S i j=tp N k (q+1) 0 M S i j:=by
 unfold tp
 rw[List.range_succ,List.any_append]
 by_cases e:j<N
 ·simp[e]
 ·simp[e]
theorem Ykc (N k:Nat) (M S:Nat->Nat->Bool) (i j:Nat):tp N k N 0 M S i j=tp N (k+1) 0 0 M S i j:=by
 unfold tp
 by_cases h1:i<k
 ·have:i<k+1:=by omega
  have h2:¬ i=k:=by omega
  simp[h1,this,h2]
 ·by_cases h2:i=k
  ·subst h2;simp
  ·have:¬ i<k+1:=by omega
   simp[h1,h2,this]
theorem Yen (N k:Nat) (M S:Nat->Nat->Bool) (h:k=N) (i j:Nat):tp N k 0 0 M S i j=Zph N M S i j:=by
 subst h
 unfold tp Zph Zdr
 by_cases h1:i<k<;>by_cases h2:j<k<;>simp[h1,h2]
theorem Ypj (N k q x:Nat) (M S:Nat->Nat->Bool) (hx:x<N):tp N k q x M S k x=(List.range q).any fun b=>M k b&&S b x:=by
 unfold tp;simp[hx]
theorem Yel (N k q x:Nat) (M S:Nat->Nat->Bool) (hx:x<N) (h:M k q=true) (i j:Nat):Zkw (tp N k q x M S) k x (tp N k q x M S k x||S q x) i j=tp N k q (x+1) M S i j:=by
 rw[Ypj N k q x M S hx]
 unfold Zkw tp
 by_cases h1:i=k/\j=x
 ·rw[if_pos h1];obtain⟨rfl,rfl⟩:=h1;simp[hx,h]
 ·rw[if_neg h1]
  by_cases h2:i=k
  ·subst h2
   have h3:¬ j=x:=fun e=>h1 ⟨rfl,e⟩
   by_cases h4:j<x
   ·have:j<x+1:=by omega
    simp[h4,this]
   ·have:¬ j<x+1:=by omega
    simp[h4,this]
  ·simp[h2]
end RelA
section
attribute [local go_sem ↓ high] RelA.execOp_max RelA.execOp_min
attribute [local go_sem] RelA.run_maxOp RelA.run_minOp
theorem Zw6 (b n c m:Nat) (M S:Nat->Nat->Bool) (w:World) (hb:RAt w b n M) (hc:RAt w c m S) (hn:n<=40) (hm:m<=40) :
  Calls Tryz.prog 94 #[.pointer (some ⟨b,0,none⟩),.pointer (some ⟨c,0,none⟩)] w fun e w'=>e=.returned (.pointer (some ⟨w.heap.size,0,none⟩))/\RAt w' w.heap.size (max n m) (Zph (max n m) M S)/\Below w.heap.size w w':=by
 have hb0:=hb.c0
 have hc0:=hc.c0
 have hmx:max (n:Int) (m:Int)=((max n m:Nat):Int):=by omega
 have hN:max n m<=40:=by omega
 have HCL:Hid (Zal ((max n m:Nat):Int)=max n m):=by show Zal _=_;unfold Zal;omega
 generalize max n m=N at *
 have HB:=jh hb
 have HC:=jh hc
 clear hb hc hn hm
 go_enter Tryz.func94,Tryz.ntmps94
 go_wp2_with fail
 refine wp_region_still_tail 9 (by kernel_rfl) (by kernel_rfl) ?_
 simp only[List.take_succ_cons,List.take_zero,List.drop_succ_cons,List.drop_zero]
 show wpStill _ _ w.drew (fun a'=>wpList _ _ _ _ a' w.drew) _ _
 repeat still_step
 refine wpStill_nil ?_
 go_wp2_with fail
 refine(Zds (N:Int) w.drew).mono ?_
 rintro e w1 ⟨rfl,hat,hbe1⟩
 rw[HCL.out] at hat
 have HAT1:Hid (RAt w1 w.heap.size N fun _ _=>false):=hat
 have HB1:Hid (Below w.heap.size w w1):=⟨hbe1.os,hbe1.tape,hbe1.output,hbe1.size,hbe1.block⟩
 clear hat hbe1 hmx HCL
 go_wp2_with fail
 go_loopw [6] (fun x wr=>∃ k:Nat,k<=N/\x=.int .i64 k/\RAt wr w.heap.size N (tp N k 0 0 M S)/\Below w.heap.size w wr) (fun x _=>N-(intOf x).toNat)
 case atStart=>exact⟨0,Nat.zero_le _,rfl,HAT1.out.congr fun i j _ _=>(Yek _ _ _ i j).symm,HB1.out⟩
 case round=>
  obtain⟨k,hk,rfl,hat,hbe⟩:=hrel
  by_cases hlt:k<N
  ·obtain⟨wo,rfl⟩:∃ wo:World,wo=wr:=⟨_,rfl⟩
   have hr0:=hat.c0
   have hdk:decide ((k:Int)<(N:Int))=true:=by simp;omega
   have hki:(k:Int)<(N:Int):=by omega
   have HAT:=jh hat
   clear hat
   go_wp2_with fail
   clear hr0
   go_loopw [7] (fun x wi=>∃ q:Nat,q<=N/\x=.int .i64 q/\RAt wi w.heap.size N (tp N k q 0 M S)/\Below w.heap.size w wi) (fun x _=>N-(intOf x).toNat)
   case atStart=>exact⟨0,Nat.zero_le _,rfl,HAT.out,hbe⟩
   case round=>
    obtain⟨q,hq,rfl,hati,hbi⟩:=hrel
    have hr0:=hati.c0
    by_cases hql:q<N
    ·obtain⟨wq,rfl⟩:∃ wq:World,wq=wr:=⟨_,rfl⟩
     have hdq:decide ((q:Int)<(N:Int))=true:=by simp;omega
     have hqi:(q:Int)<(N:Int):=by omega
     have hq40:(q:Int)<40:=by omega
     have hk40:(k:Int)<40:=by omega
     have HATI:=jh hati
     clear hati
     cases hx1:M k q
     ·have HX1:=jh hx1
      clear hx1
      go_wp2_with fail
      clear hr0
      go_loopw [8] (fun x wi=>x=.int .i64 0/\RAt wi w.heap.size N (tp N k q 0 M S)/\Below w.heap.size w wi) (fun x _=>0)
      case atStart=>exact⟨rfl,HATI.out,hbi⟩
      case round=>
       obtain⟨rfl,hatx,hbx⟩:=hrel
       have hr0:=hatx.c0
       have hd0:decide ((0:Int)<(N:Int))=true:=by simp;omega
       have hm1:=(HB.out.below hbx HB.out.lt).ci k q (by omega) (by omega)
       rw[HX1.out] at hm1
       have HATX:=jh hatx
       clear hatx
       go_wp2_with fail
       go_roundw
       case rel=>exact⟨q+1,by omega,by go_num,HATX.out.congr fun i j _ _=>Yem N k q M S HX1.out i j,hbx⟩
       case measure=>simp[intOf];omega
     ·have HX1:=jh hx1
      clear hx1
      go_wp2_with fail
      clear hr0
      go_loopw [8] (fun x wi=>∃ z:Nat,z<=N/\x=.int .i64 z/\RAt wi w.heap.size N (tp N k q z M S)/\Below w.heap.size w wi) (fun x _=>N-(intOf x).toNat)
      case atStart=>exact⟨0,Nat.zero_le _,rfl,HATI.out,hbi⟩
      case round=>
       obtain⟨z,hz,rfl,hatx,hbx⟩:=hrel
       have hr0:=hatx.c0
       have hm1:=(HB.out.below hbx HB.out.lt).ci k q (by omega) (by omega)
       rw[HX1.out] at hm1
       by_cases hzl:z<N
       ·have hdz:decide ((z:Int)<(N:Int))=true:=by simp;omega
        have hzi:(z:Int)<(N:Int):=by omega
        have hz40:(z:Int)<40:=by omega
        have hm2:=(HC.out.below hbx HC.out.lt).ci q z (by omega) (by omega)
        have hd:=hatx.ci k z (by omega) (by omega)
        have hfz:=hatx.frozen (1+k*40+z)
        have HATX:=jh hatx
        have HST:=jh (Yel N k q z M S hzl HX1.out)
        clear hatx
        cases hx2:tp N k q z M S k z<;>cases hx3:S q z
        all_goals
         rw[hx2] at hd
         rw[hx3] at hm2
         have HX2:=jh hx2
         have HX3:=jh hx3
         clear hx2 hx3
         go_wp2_with fail
         go_region
         go_wp2_with fail
         go_roundw
         case rel=>
          refine⟨z+1,by omega,by go_num,?_,(hbx.setCell (Nat.le_refl _) _).drew⟩
          have h1:=HATX.out.set k z (tp N k q z M S k z||S q z) (by omega) (by omega)
          have h2:=(h1.congr fun i j _ _=>HST.out i j).drew
          rw[HX2.out,HX3.out] at h2
          exact h2
         case measure=>simp[intOf];omega
       ·have hzN:z=N:=by omega
        have HZ:=jh hzN
        have hdz:decide ((z:Int)<(N:Int))=false:=by simp;omega
        have HATX:=jh hatx
        clear hzN hatx
        go_wp2_with fail
        go_roundw
        case rel=>
         refine⟨q+1,by omega,by go_num,?_,hbx⟩
         have h1:=HATX.out
         rw[HZ.out] at h1
         exact h1.congr fun i j _ _=>Ykd N k q M S i j
        case measure=>simp[intOf];omega
    ·have hqN:q=N:=by omega
     have HQ:=jh hqN
     have hdq:decide ((q:Int)<(N:Int))=false:=by simp;omega
     have HATI:=jh hati
     clear hqN hati
     go_wp2_with fail
     go_roundw
     case rel=>
      refine⟨k+1,by omega,by go_num,?_,hbi⟩
      have h1:=HATI.out
      rw[HQ.out] at h1
      exact h1.congr fun i j _ _=>Ykc N k M S i j
     case measure=>simp[intOf];omega
  ·have hkN:k=N:=by omega
   have HKN:=jh hkN
   have hdk:decide ((k:Int)<(N:Int))=false:=by simp;omega
   have hr0:=hat.c0
   have HAT:=jh hat
   clear hkN hat
   go_wp2_with fail
   go_ret
   exact⟨rfl,HAT.out.congr fun i j _ _=>Yen N k _ _ HKN.out i j,hbe⟩
end
end
end Go.Proofs.YthcnhbclagegeaaGreatDoor
