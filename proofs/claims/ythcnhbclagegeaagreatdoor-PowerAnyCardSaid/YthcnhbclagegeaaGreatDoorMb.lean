/-
  What the functions that the law reaches do, one by one: contracts. Conditions: those that each of them prints.
-/
import Derived.Test.YthcnhbclagegeaaGreatDoorMa
import Derived.OwnWalk
import Derived.Deep.AppendLies
set_option maxRecDepth 20000
set_option maxHeartbeats 1600000
namespace Go.Proofs.YthcnhbclagegeaaGreatDoor
open Go.RowKit RelA
section
namespace RelA
theorem Tab.below {w w':World} {B:Nat} (h:Tab w) (hb:Below B w w') (h0:0<B):Tab w':=fun k hk=>(hb.cell (p:=⟨0,k,none⟩) h0).trans (h k hk)
abbrev Zyk (R:Nat->Nat) (i j:Nat):Prop:=Relation.TransGen (fun a b=>(R a).testBit b=true) i j
open Classical in
noncomputable def Zk0 (R:Nat->Nat):Nat->Nat:=fun i=>Zhd (fun j=>decide (Zyk R i j)) 40
theorem Zoi (R:Nat->Nat) (i j:Nat):(Zk0 R i).testBit j=true↔j<40/\Zyk R i j:=by
 unfold Zk0;rw[Zbi];simp
theorem Zrw (R:Nat->Nat) (i:Nat):Zk0 R i<2 ^ 40:=Zh3 _ _
def PInv (R T:Nat->Nat):Prop:=(∀ i,T i<2 ^ 40)/\(∀ i j,(R i).testBit j=true->(T i).testBit j=true)/\(∀ i j,(T i).testBit j=true->Zyk R i j)
theorem Zv0 {R:Nat->Nat} (hR:∀ i,R i<2 ^ 40) {i j:Nat} (h:Zyk R i j):j<40:=by
 cases h with
 | single h=>exact Zhe (hR _) h
 | tail _ h=>exact Zhe (hR _) h
theorem PInv.start (R:Nat->Nat) (hR:∀ i,R i<2 ^ 40):PInv R R:=⟨hR,fun _ _ h=>h,fun _ _ h=>.single h⟩
theorem Ztf {R:Nat->Nat} {i j k:Nat} (h:Zyk R i j) (g:Zyk R j k):Zyk R i k:=by
 induction g with
 | single g=>exact .tail h g
 | tail _ g ih=>exact .tail ih g
theorem PInv.step {R T:Nat->Nat} (h:PInv R T):PInv R (fun i=>T i|||U T (T i)):=by
 obtain⟨h1,h2,h3⟩:=h
 refine⟨fun i=>Nat.or_lt_two_pow (h1 i) (Ypa _ _),fun i j hj=>?_,fun i j hj=>?_⟩
 ·show(T i|||U T (T i)).testBit j=true
  rw[Nat.testBit_or,h2 i j hj];rfl
 ·have hj:(T i|||U T (T i)).testBit j=true:=hj
  rw[Nat.testBit_or,Bool.or_eq_true,Zuj] at hj
  rcases hj with hj | ⟨_,k,_,a,b⟩
  ·exact h3 i j hj
  ·exact Ztf (h3 _ _ a) (h3 _ _ b)
theorem PInv.done {R T:Nat->Nat} (hR:∀ i,R i<2 ^ 40) (h:PInv R T) (he:∀ i,i<40->(T i|||U T (T i))=T i) (i:Nat) (hi:i<40):(T i|||U T (T i))=Zk0 R i:=by
 obtain⟨h1,h2,h3⟩:=h
 rw[he i hi]
 apply Nat.eq_of_testBit_eq
 intro j
 rw[Bool.eq_iff_iff,Zoi]
 constructor
 ·intro hj;exact⟨Zhe (h1 i) hj,h3 i j hj⟩
 ·rintro⟨hj,hp⟩
  clear hj
  induction hp with
  | single h=>exact h2 _ _ h
  | @tail b c hab hbc ih=>
   have hb40:=Zv0 hR hab
   have:(T i|||U T (T i)).testBit c=true:=by
    rw[Nat.testBit_or,Bool.or_eq_true,Zuj]
    exact .inr ⟨Zhe (hR _) hbc,b,hb40,ih,h2 _ _ hbc⟩
   rwa [he i hi] at this
def muA (xs:Array Value):Nat:=((List.range 40).map fun i=>2 ^ 40-(Znt (xs.getD i undef)).toNat).sum
def Yxe:Value->Nat | .pointer (some a)=>a.block | _=>0
theorem Yki (f g:Nat->Nat) (l:List Nat) (hle:∀ i∈l,f i<=g i) (hlt:∃ i∈l,f i<g i):(l.map f).sum<(l.map g).sum:=by
 induction l with
 | nil=>obtain⟨i,hi,_⟩:=hlt;cases hi
 | cons a l ih=>
  have hl:(l.map f).sum<=(l.map g).sum:=by
   clear ih hlt
   have h2:∀ i∈l,f i<=g i:=fun i hi=>hle i (by simp[hi])
   clear hle
   induction l with
   | nil=>simp
   | cons b l ih=>
    have:=ih fun i hi=>h2 i (by simp[hi])
    have:=h2 b (by simp)
    simp only[List.map_cons,List.sum_cons];omega
  have ha:=hle a (by simp)
  simp only[List.map_cons,List.sum_cons]
  obtain⟨i,hi,hfi⟩:=hlt
  rcases List.mem_cons.1 hi with rfl | hi
  ·omega
  ·have:=ih (fun i hi=>hle i (by simp[hi])) ⟨i,hi,hfi⟩
   omega
theorem Ykz (T T':Nat->Nat) (hlt:∀ i,T' i<2 ^ 40) (hle:∀ i,T i<=T' i) (hne:Zpj T' T=false):muA (Za3 T')<muA (Za3 T):=by
 unfold muA
 have hget:∀ (R:Nat->Nat) i,i<40->(Za3 R).getD i undef=.int .u64 (R i):=fun R i hi=>by rw[Array.getD_eq_getD_getElem?,Zb0 R i hi];rfl
 apply Yki
 ·intro i hi
  have hi:=List.mem_range.1 hi
  rw[hget _ i hi,hget _ i hi]
  have:=hle i
  have:=hlt i
  simp[Znt];omega
 ·have:¬ ∀ i,i<40->T' i=T i:=by
   intro h
   rw[(Zhw _ _).2 h] at hne;cases hne
  have:∃ i,i<40/\T' i≠T i:=by
   apply Classical.byContradiction
   intro hn
   apply this
   intro i hi
   apply Classical.byContradiction
   intro h;exact hn ⟨i,hi,h⟩
  obtain⟨i,hi,hne⟩:=this
  refine⟨i,List.mem_range.2 hi,?_⟩
  rw[hget _ i hi,hget _ i hi]
  have:=hle i
  have:=hlt i
  simp[Znt];omega
end RelA
section
attribute [local go_sem ↓] Go.wp_at_zero Go.wp_at_succ RelA.execOp_load_rows
attribute [local go_sem] RelA.run_loadRows RelA.run_equalIn_rows
theorem Zrv (b n:Nat) (R:Nat->Nat) (w:World) (hb:At w b n R) (hR:∀ i,R i<2 ^ 40) (htab:Tab w) :
  Calls Tryz.prog 66 #[.pointer (some ⟨b,0,none⟩)] w fun e w'=>∃ c,e=.returned (.pointer (some ⟨c,0,none⟩))/\w.heap.size<=c/\At w' c n (Zk0 R)/\Below w.heap.size w w':=by
 have HR:=jh hR
 have HB:=jh hb
 have HTAB:=jh htab
 clear hR hb htab
 go_enter Tryz.func66,Tryz.ntmps66
 go_wp2_with fail
 go_loopw [3] (fun t wr=>∃ (c:Nat) (T:Nat->Nat),t=.pointer (some ⟨c,0,none⟩)/\At wr c n T/\PInv R T/\Below w.heap.size w wr) (fun t wr=>muA (Zei wr (Yxe t)))
 case atStart=>exact⟨b,R,rfl,HB.out,PInv.start R HR.out,Below.refl _ _⟩
 case round=>
  obtain⟨c,T,rfl,hat,hp,hbe⟩:=hrel
  have HAT:=jh hat
  have HP:=jh hp
  clear hat hp
  have h0:0<w.heap.size:=Nat.lt_of_le_of_lt (Nat.zero_le _) HB.out.lt
  have HC1:=jh (Zvl c n c n T T wr HAT.out HAT.out HP.out.1 HP.out.1 (HTAB.out.below hbe h0))
  go_wp2_with fail
  refine HC1.out.mono ?_
  rintro e w1 ⟨rfl,hat1,hbe1⟩
  have HAT1:=jh hat1
  clear hat1
  go_wp2_with fail
  have HC2:=jh (Zuu c n wr.heap.size (max n n) T _ w1 (HAT.out.below hbe1 HAT.out.lt) HAT1.out HP.out.1 (fun _=>Ypa _ _))
  refine HC2.out.mono ?_
  rintro e w2 ⟨rfl,hat2,hbe2⟩
  have HAT2:=jh hat2
  clear hat2
  have hatc:=((HAT.out.below hbe1 HAT.out.lt).below hbe2 (Nat.lt_of_lt_of_le HAT.out.lt hbe1.size))
  have i1:Zmb w2.drew w1.heap.size:=HAT2.out.is
  have i2:Zmb w2.drew c:=hatc.is
  have r1:Zgf (Zei w2.drew w1.heap.size):=HAT2.out.isRows
  have r2:Zgf (Zei w2.drew c):=hatc.isRows
  have e1:Zei w2.drew w1.heap.size=Za3 _:=HAT2.out.rows
  have e2:Zei w2.drew c=Za3 T:=hatc.rows
  have e3:Zny (Zei w2.drew w1.heap.size) (Zei w2.drew c)=Zpj (fun i=>T i|||U T (T i)) T:=by rw[e1,e2,Zoe]
  have hb3:Below w.heap.size w w2:=(hbe.trans (hbe1.mono hbe.size)).trans (hbe2.mono (Nat.le_trans hbe.size hbe1.size))
  have hw1:w.heap.size<=w1.heap.size:=Nat.le_trans hbe.size hbe1.size
  have hm:max n (max n n)=n:=by omega
  rw[hm] at HAT2
  have E1:=jh e1
  have E2:=jh e2
  have HATC:=jh hatc
  clear e1 e2 hm hatc
  cases hs:Zpj (fun i=>T i|||U T (T i)) T
  ·rw[hs] at e3
   have HSS:=jh hs
   clear hs
   go_wp2_with fail
   go_region
   go_wp2_with fail
   go_roundw
   case rel=>
    exact⟨w1.heap.size,_,rfl,HAT2.out.drew,HP.out.step,hb3.drew⟩
   case measure=>
    have hm2:=Ykz T (fun i=>T i|||U T (T i)) HP.out.step.1 (fun i=>Nat.left_le_or) HSS.out
    rw[<- E1.out,<- HAT.out.rows] at hm2
    exact hm2
  ·rw[hs] at e3
   have HSS:=jh hs
   clear hs
   go_wp2_with fail
   go_region
   go_wp2_with fail
   go_ret
   exact⟨_,rfl,hw1,HAT2.out.drew.congr fun i hi=>HP.out.done HR.out ((Zhw _ _).1 HSS.out) i hi,hb3.drew⟩
end
end
section
namespace RelA
def Zj3 (P:Nat->Nat):Bool:=(List.range 40).any fun i=>(P i).testBit i
theorem Zio (P:Nat->Nat):Zj3 P=true↔∃ i,i<40/\(P i).testBit i=true:=by unfold Zj3;simp
end RelA
section
attribute [local go_sem ↓] Go.wp_at_zero Go.wp_at_succ RelA.execOp_load_rows
attribute [local go_sem] RelA.run_loadRows RelA.run_equalIn_rows
theorem Zxn (b n:Nat) (R P:Nat->Nat) (w:World) (hb:At w b n R) (hR:∀ i,R i<2 ^ 40) (htab:Tab w) (hPe:Zk0 R=P) :
  Calls Tryz.prog 132 #[.pointer (some ⟨b,0,none⟩)] w fun e w'=>e=.returned (.bool (Zj3 P))/\Below w.heap.size w w':=by
 have HC:=jh (Zrv b n R w hb hR htab)
 have hP:=jh (Zrw R)
 rw[hPe] at HC hP
 clear hR hb htab hPe
 go_enter Tryz.func132,Tryz.ntmps132
 go_wp2_with fail
 refine HC.out.mono ?_
 rintro e w1 ⟨c,rfl,hc,hat,hbe⟩
 have HAT:=jh hat
 clear hat
 go_wp2_with ((with_reducible refine Zbz rfl _ rfl c n P rfl HAT.out ?_))
 go_loop [10] (fun i=>∃ k:Nat,k<=40/\i=.int .i64 k/\Hid (∀ j,j<k->(P j).testBit j=false)) (fun i=>40-(intOf i).toNat)
 case atStart=>exact⟨0,Nat.zero_le _,rfl,fun j hj=>absurd hj (by omega)⟩
 case round=>
  obtain⟨k,hk,rfl,hno⟩:=hrel
  by_cases hlt:k<40
  ·have hix:=Zcj P k hlt
   have hdk:decide ((k:Int)<40)=true:=by simp;omega
   have hb:=Zwx (P k) k (Zly (hP.out k))
   cases hbit:(P k).testBit k
   ·rw[hbit] at hb
    have HBIT:=jh hbit
    clear hbit
    go_wp2_with fail
    go_round
    case rel=>
     refine⟨k+1,by omega,by go_num,?_⟩
     intro j hj
     by_cases e:j=k
     ·subst e;exact HBIT.out
     ·exact hno.out j (by omega)
    case measure=>simp[intOf];omega
   ·rw[hbit] at hb
    have HBIT:=jh hbit
    clear hbit
    have HF:=jh ((Zio P).2 ⟨k,hlt,HBIT.out⟩)
    go_wp2_with fail
    go_ret
    exact⟨by rw[HF.out];rfl,hbe⟩
  ·have hk40:k=40:=by omega
   have HF:Hid (Zj3 P=false):=by
    show Zj3 P=false
    rw[<- Bool.not_eq_true,Zio]
    rintro⟨i,hi,hbi⟩
    rw[hno.out i (by omega)] at hbi;cases hbi
   have hk2:40<=k:=by omega
   clear hk40
   go_wp2_with fail
   go_ret
   exact⟨by rw[HF.out];rfl,hbe⟩
end
theorem Zxo (b n:Nat) (R:Nat->Nat) (w:World) (hb:At w b n R) (hR:∀ i,R i<2 ^ 40) (htab:Tab w) :
  Calls Tryz.prog 132 #[.pointer (some ⟨b,0,none⟩)] w fun e w'=>e=.returned (.bool (Zj3 (Zk0 R)))/\Below w.heap.size w w':=
 Zxn b n R _ w hb hR htab rfl
theorem RelA.and127 (z:Int):∃ k:Nat,k<128/\bits .and .i64 z 127=(k:Int):=by
 refine⟨(BitVec.ofInt 64 z).toNat&&&127,?_,?_⟩
 ·have:(BitVec.ofInt 64 z).toNat&&&127<=127:=Nat.and_le_right
  omega
 ·show IntKind.i64.wrap ((BitVec.ofInt 64 z&&&BitVec.ofInt 64 127).toNat:Int)=_
  have e:(BitVec.ofInt 64 127).toNat=127:=by decide
  rw[BitVec.toNat_and,e,IntKind.wrap_i64]
  have:(BitVec.ofInt 64 z).toNat&&&127<=127:=Nat.and_le_right
  omega
theorem Ya1 (x:Nat) (w:World) :
  Calls Tryz.prog 155 #[.int .u64 x] w fun e w'=>(∃ k:Nat,k<128/\e=.returned (.int .i64 k))/\w=w':=by
 go_enter Tryz.func155,Tryz.ntmps155
 go_wp2_with fail
 go_ret
 refine⟨?_,rfl⟩
 show ∃ k:Nat,k<128/\Ending.returned (Value.int .i64 (bits .and .i64 _ 127))=_
 obtain⟨k,hk,he⟩:=and127 _
 exact⟨k,hk,by rw[he]⟩
end
section
namespace RelA
theorem Yg2 (x:Nat) (h0:x≠0) (hx:x<2 ^ 64) (j:Nat) (hj:j<Lib.ctz 64 x):x.testBit j=false:=by
 obtain⟨m,hm,hk⟩:=Lib.ctzFrom_spec 64 x (by omega) hx
 have e:Lib.ctz 64 x=Lib.ctzFrom 64 x:=by simp[Lib.ctz,h0]
 rw[e] at hj
 generalize Lib.ctzFrom 64 x=k at *
 rw[hm,Nat.testBit_two_pow_mul]
 have:¬ k<=j:=by omega
 simp[this]
def Ze1 (x:Nat):List Nat:=(List.range 40).filter fun j=>x.testBit j
theorem Zi4:Ze1 0=[]:=by unfold Ze1;simp
theorem Zpd (x:Nat) (h0:x≠0) (hx:x<2 ^ 40):Ze1 x=Lib.ctz 64 x::Ze1 (x&&&(x-1)):=by
 have hz:=Zhr x h0 hx
 have hb:=Zjp x h0 (by omega)
 have hl:=Yg2 x h0 (by omega)
 generalize Lib.ctz 64 x=z at *
 unfold Ze1
 have hr:List.range 40=List.range' 0 z++(z::List.range' (z+1) (40-z-1)):=by
  rw[List.range_eq_range']
  have e1:(40:Nat)=z+((40-z-1)+1):=by omega
  have:=List.range'_append_1 (s:=0) (m:=z) (n:=(40-z-1)+1)
  rw[Nat.zero_add,List.range'_succ] at this
  rw[this]
  congr 1
 rw[hr,List.filter_append,List.filter_append,List.filter_cons,List.filter_cons]
 have f1:(List.range' 0 z).filter (fun j=>x.testBit j)=[]:=by
  rw[List.filter_eq_nil_iff]
  intro a ha
  have:=List.mem_range'_1.1 ha
  rw[hl a (by omega)];simp
 have f2:(List.range' 0 z).filter (fun j=>(x&&&(x-1)).testBit j)=[]:=by
  rw[List.filter_eq_nil_iff]
  intro a ha
  have:=List.mem_range'_1.1 ha
  rw[(hb a).1,hl a (by omega)];simp
 rw[f1,f2,(hb 0).2,(hb z).1]
 simp only[List.nil_append,if_true,ne_eq,not_true_eq_false,decide_false,Bool.and_false,Bool.false_eq_true,if_false,List.cons.injEq,true_and]
 apply List.filter_congr
 intro a ha
 have:=List.mem_range'_1.1 ha
 rw[(hb a).1]
 have:a≠z:=by omega
 simp[this]
def Zb2 (i x:Nat):List (Nat×Nat):=(Ze1 x).map fun j=>(i,j)
def pre (R:Nat->Nat) (k:Nat):List (Nat×Nat):=(List.range k).flatMap fun i=>Zb2 i (R i)
def Zga (R:Nat->Nat):List (Nat×Nat):=pre R 40
theorem Zm2 (R:Nat->Nat) (k:Nat):pre R (k+1)=pre R k++Zb2 k (R k):=by
 unfold pre;rw[List.range_succ,List.flatMap_append];simp
theorem Zo9 (i x:Nat):(Zb2 i x).length<=40:=by
 unfold Zb2 Ze1
 rw[List.length_map]
 have:=List.length_filter_le (fun j=>x.testBit j) (List.range 40)
 simpa using this
theorem Yfz (R:Nat->Nat) (k:Nat):(pre R k).length<=40*k:=by
 induction k with
 | zero=>simp[pre]
 | succ k ih=>
  rw[Zm2,List.length_append]
  have:=Zo9 k (R k)
  omega
def Zat (l:List (Nat×Nat)):List Value:=l.flatMap fun p=>[.int .i64 p.1,.int .i64 p.2]
theorem Zbj (l:List (Nat×Nat)) (a b:Nat):Zat (l ++ [(a,b)])=Zat l ++ [.int .i64 a,.int .i64 b]:=by
 unfold Zat;rw[List.flatMap_append];rfl
theorem Ziz:(Tryz.prog.info? 56).map (fun i=>(i.zero,i.size,i.bytes))=some (some (.agg #[.int .i64 0,.int .i64 0]),2,16):=by kernel_rfl
end RelA
theorem Zhy (b n:Nat) (R:Nat->Nat) (w:World) (hb:At w b n R) (hR:∀ i,R i<2 ^ 40) (htab:Tab w) :
  Calls Tryz.prog 84 #[.pointer (some ⟨b,0,none⟩)] w fun e w'=>∃ v,e=.returned v/\w'.ownsRow w.heap.size 56 2 v (Zga R).length (Zat (Zga R))/\Below w.heap.size w w':=by
 have HR:=jh hR
 have HB:=jh hb
 have HTAB:=jh htab
 clear hR hb htab
 obtain⟨i0,hi,hz0,hz1,hz2⟩:=info_parts Ziz
 go_enter Tryz.func84,Tryz.ntmps84
 go_wp2_with ((with_reducible refine Zbz rfl _ rfl b n R rfl HB.out ?_))
 go_loop [3,13] (fun s i=>∃ k N:Nat,k<=40/\N<=128*k/\s=.int .i64 N/\i=.int .i64 k) (fun _ i=>40-(intOf i).toNat)
 case atStart=>exact⟨0,0,by omega,by omega,rfl,rfl⟩
 case round=>
  obtain⟨k,N,hk,hN,rfl,rfl⟩:=hrel
  by_cases hlt:k<40
  ·have hix:=Zcj R k hlt
   go_wp2_with fail
   refine(Ya1 (R k) _).mono ?_
   rintro e w' ⟨⟨q,hq,rfl⟩,rfl⟩
   go_wp2_with fail
   go_round
   case rel=>exact⟨k+1,N+q,by omega,by omega,by go_num,by go_num⟩
   case measure=>simp[intOf];omega
  ·go_wp2_with (first
    | (at_make;refine wpList_make_own _ rfl _ _ 25 rfl w.heap.size 56 i0 (.agg #[.int .i64 0,.int .i64 0]) 2 Tryz.underlying25 hi hz0 hz1 .i64 .i64 _ N rfl rfl (by rfl) (by rw[hz2];omega) (by unfold maxLen;omega) (Nat.le_refl _) ?_;intro w0 hown0 hgrow0;have HBW:Hid (Below w.heap.size w w0):=(Below.refl _ _).grown hgrow0 (Nat.le_refl _) (fun k h=>by cases h))
    | (with_reducible refine Zbz rfl _ rfl b n R rfl (HB.out.below HBW.out HB.out.lt) ?_))
   go_loopw [6,27] (fun v i wr=>∃ k:Nat,k<=40/\i=.int .i64 k/\wr.ownsRow w.heap.size 56 2 v (pre R k).length (Zat (pre R k))/\Below w.heap.size w wr) (fun _ i _=>40-(intOf i).toNat)
   case atStart=>exact⟨0,Nat.zero_le _,rfl,hown0,HBW.out⟩
   case round=>
    obtain⟨k,hk,rfl,hown,hbe⟩:=hrel
    by_cases hlt:k<40
    ·obtain⟨wo,rfl⟩:∃ wo:World,wo=wr:=⟨_,rfl⟩
     have hix:=Zcj R k hlt
     have hdk:decide ((k:Int)<40)=true:=by simp;omega
     have HOWN:=jh hown
     have HPL:=jh (Yfz R (k+1))
     clear hown
     go_wp2_with fail
     go_loopw [6,8] (fun v x wi=>∃ (y:Nat) (L:List (Nat×Nat)),y<2 ^ 40/\x=.int .u64 y/\Hid (L++Zb2 k y=pre R (k+1))/\wi.ownsRow w.heap.size 56 2 v L.length (Zat L)/\Below w.heap.size w wi) (fun _ x _=>(intOf x).toNat)
     case atStart=>exact⟨R k,pre R k,HR.out k,rfl,(show _=_ from (Zm2 R k).symm),HOWN.out,hbe⟩
     case round=>
      obtain⟨y,L,hy,rfl,hL,hown,hbi⟩:=hrel
      by_cases hy0:y=0
      ·subst hy0
       have HOWNI:=jh hown
       clear hown
       go_wp2_with fail
       go_roundw
       case rel=>
        refine⟨k+1,by omega,by go_num,?_,hbi⟩
        have h1:=hL.out
        unfold Zb2 at h1
        rw[Zi4,List.map_nil,List.append_nil] at h1
        rw[<- h1];exact HOWNI.out
       case measure=>simp[intOf];omega
      ·have hyb:((y:Int)!=0)=true:=by simpa using hy0
       have hy1:1<=y:=by omega
       have hz:=Zhr y hy0 hy
       have HTZ:=jh (Zuk y wr (HTAB.out.below hbi (Nat.lt_of_le_of_lt (Nat.zero_le _) HB.out.lt)) hy0 (Zly hy))
       have HOWNI:=jh hown
       have HY0:=jh hy0
       have hand:bits .and .u64 (y:Int) ((y:Int)-1)=((y&&&(y-1):Nat):Int):=by
        have:=bits_and_u64_nat y (y-1) (Zly hy) (by omega)
        rwa [Int.ofNat_sub hy1] at this
       have HST:Hid (Zb2 k y=(k,Lib.ctz 64 y)::Zb2 k (y&&&(y-1))):=by
        show _=_
        unfold Zb2;rw[Zpd y hy0 hy];rfl
       have hLlen:L.length+1<=1640:=by
        have h1:=congrArg List.length hL.out
        have h2:=HPL.out
        have h3:=HST.out
        rw[List.length_append,h3,List.length_cons] at h1
        omega
       clear hown hy0
       generalize Lib.ctz 64 y=z at *
       have hsz:=hbi.size
       go_wp2_with fail
       refine HTZ.out.mono ?_
       rintro e w' ⟨rfl,rfl⟩
       go_wp2_with (first
        | (at_builtin;refine wpList_append_own _ rfl (.tmp 37) (.tmp 42) 25 rfl w.heap.size 56 i0 (.agg #[.int .i64 0,.int .i64 0]) 2 16 Tryz.underlying25 hi hz0 hz1 hz2 rfl (by decide) _ _ _ rfl (HOWNI.out.alloc _) ⟨wr.heap.size,0,none⟩ 1 1 [.int .i64 k,.int .i64 z] rfl rfl (World.news_of_block (cs:=#[.int .i64 k,.int .i64 z]) (t:=56) (fr:=(0,0)) (heap_alloc_new wr _)) (by simp[Value.oneCell']) (by unfold maxLen;omega) (by omega) (by simp;omega) ?_;intro v1 w1 hown1 hgrow1 hnil1;have HO1:=jh hown1;have HG1:=jh hgrow1;clear hown1 hgrow1 hnil1))
       go_roundw
       case rel=>
        refine⟨y&&&(y-1),L ++ [(k,z)],?_,rfl,?_,?_,?_⟩
        ·exact Nat.lt_of_lt_of_le (Zfx y HY0.out) (by omega)
        ·show _=_
         rw[<- hL.out,HST.out,List.append_assoc];rfl
        ·rw[List.length_append,Zbj];exact HO1.out
        ·exact(hbi.alloc hsz _).grown HG1.out (by simp;omega) (fun j hj=>(HOWNI.out.lt j hj).1)
       case measure=>
        have:=Zfx y HY0.out
        simp[intOf];omega
    ·have hk40:k=40:=by omega
     have HK:=jh hk40
     have HOWN:=jh hown
     clear hk40 hown
     go_wp2_with fail
     go_ret
     refine⟨_,rfl,?_,hbe⟩
     have:=HOWN.out
     rw[HK.out] at this
     exact this
end
section
namespace RelA
def Zjq (x y:Value):Sem Next:=do pure (.value (<- Instr.build 67 #[(0,x),(1,y)]))
theorem execOp_build_rel (a:Act) (dst:Option Tmp) (x y:Operand) (ty:TypeId) (pos:String) (after:Array Edge) (guard:Option (Nat×Bool)) :
  execOp a.eval { dst,op:=.build 67 #[(0,x),(1,y)],type:=ty,pos,after,guard }=Zjq (a.eval x) (a.eval y):=by
 simp[execOp,Zjq]
def Yhp (n:Int) (xs:Array Value):Array Value:=#[Value.int .i64 n]++xs
theorem Zxd (n:Nat) (R:Nat->Nat):Yhp n (Za3 R)=cells n R:=by
 unfold Yhp Za3 cells
 apply Array.ext'
 simp
theorem run_buildRel (n:Int) (xs:Array Value) (w:World) (h:Zgf xs):(Zjq (.int .i64 n) (.agg xs)).run Tryz.prog w=.ok (.value (.agg (Yhp n xs))) w:=by
 obtain⟨R,rfl⟩:=h
 unfold Zjq
 rw[Sem.run_bind]
 have:(Instr.build 67 #[(0,.int .i64 n),(1,.agg (Za3 R))]).run Tryz.prog w=.ok (.agg (Yhp n (Za3 R))) w:=by kernel_rfl
 rw[this];rfl
end RelA
section
attribute [local go_sem ↓] Go.wp_at_zero Go.wp_at_succ RelA.execOp_load_rows RelA.execOp_build_rel
attribute [local go_sem] RelA.run_loadRows RelA.run_buildRel
theorem Zxm (b n:Nat) (R:Nat->Nat) (w:World) (hb:At w b n R) (hn:n<=40) (hR:∀ i,R i<2 ^ 40) :
  Calls Tryz.prog 174 #[.pointer (some ⟨b,0,none⟩)] w fun e w'=>e=.returned (.pointer (some ⟨w.heap.size,0,none⟩))/\At w' w.heap.size n (fun i=>if i<n then R i|||2 ^ i else R i)/\Below w.heap.size w w':=by
 have hb0:=hb.c0
 have hb2:Zmb w.drew b:=hb.is
 have hr2:Zgf (Zei w.drew b):=hb.isRows
 have HE:=jh hb.drew.rows
 have HR:=jh hR
 have HB:=jh hb
 have hb3:(w.alloc (.cells (Yhp n (Zei w.drew b)) 67)).cell? ⟨b,0,none⟩=some (.int .i64 n):=(HB.out.alloc _).c0
 clear hR hb
 go_enter Tryz.func174,Tryz.ntmps174
 go_wp2_with fail
 go_region
 go_wp2_with fail
 go_loopw [19] (fun i wr=>∃ k:Nat,k<=n/\i=.int .i64 k/\At wr w.heap.size n (fun j=>if j<k then R j|||2 ^ j else R j)/\Below w.heap.size w wr) (fun i _=>n-(intOf i).toNat)
 case atStart=>
  refine⟨0,Nat.zero_le _,rfl,?_,jb.drew⟩
  have h1:At (w.alloc (.cells (Yhp n (Zei w.drew b)) 67 (0,0))) w.heap.size n R:=by
   rw[HE.out,Zxd];exact heap_alloc_new _ _
  exact h1.drew.congr fun j _=>by simp
 case round=>
  obtain⟨k,hk,rfl,hat,hbe⟩:=hrel
  have HAT:=jh hat
  clear hat
  by_cases hlt:k<n
  ·have hd:wr.cell? ⟨w.heap.size,1+k,none⟩=some (.int .u64 (R k)):=by
    have:=HAT.out.ci k (by omega)
    rwa [if_neg (by omega)] at this
   have hfz:=HAT.out.frozen (1+k)
   have hor:bits .or .u64 (R k:Int) (IntKind.u64.wrap (2 ^ k))=((R k|||2 ^ k:Nat):Int):=by
    rw[Zul k (by omega)]
    exact bits_or_u64_nat _ _ (Zly (HR.out k)) (Zly (Nat.pow_lt_pow_right (by omega) (by omega)))
   go_wp2_with fail
   go_region
   go_wp2_with fail
   go_roundw
   case rel=>
    refine⟨k+1,by omega,by go_num,?_,(hbe.setCell (Nat.le_refl _) _).drew⟩
    refine((HAT.out.set k (R k|||2 ^ k)).drew).congr fun j _=>?_
    unfold upd
    by_cases e:j=k
    ·subst e;simp
    ·rw[if_neg e]
     show(if j<k then R j|||2 ^ j else R j)=_
     by_cases e2:j<k
     ·rw[if_pos e2,if_pos (by omega)]
     ·rw[if_neg e2,if_neg (by omega)]
   case measure=>simp[intOf];omega
  ·have hke:k=n:=by omega
   have HK:=jh hke
   clear hke
   go_wp2_with fail
   go_ret
   refine⟨rfl,?_,hbe⟩
   have:=HAT.out
   rwa [HK.out] at this
end
end
section
namespace RelA
end RelA
theorem Yga (n:Int) (w:World) :
  Calls Tryz.prog 152 #[.int .i64 n,.slice none 0 0] w fun e w'=>e=.returned (.pointer (some ⟨w.heap.size,0,none⟩))/\At w' w.heap.size (Zal n) (fun _=>0)/\Below w.heap.size w w':=by
 go_enter Tryz.func152,Tryz.ntmps152
 go_wp2_with fail
 all_goals
  go_loopw [15] (fun i wr=>i=.int .i64 0/\At wr w.heap.size (Zal n) (fun _=>0)/\Below w.heap.size w wr) (fun i _=>0)
  case atStart=>
   exact⟨rfl,Zfr w _ _ (by unfold Zal;omega),jb⟩
  case round=>
   obtain⟨rfl,hat,hbe⟩:=hrel
   have HAT:=jh hat
   clear hat
   go_wp2_with fail
   go_ret
   exact⟨rfl,HAT.out,hbe⟩
namespace RelA
theorem Yba (k k2:IntKind) (x y:Int):Builtin.max2 (.int k x) (.int k2 y)=pure (.int k (max x y)):=by
 show pure (Value.int k (if y>x then y else x))=_
 by_cases h:y>x
 ·rw[if_pos h];congr 2;omega
 ·rw[if_neg h];congr 2;omega
theorem Ya9 (k k2:IntKind) (x y:Int):Builtin.min2 (.int k x) (.int k2 y)=pure (.int k (min x y)):=by
 show pure (Value.int k (if y<x then y else x))=_
 by_cases h:y<x
 ·rw[if_pos h];congr 2;omega
 ·rw[if_neg h];congr 2;omega
def Zyp (x y:Value):Sem Next:=do pure (.value (<- Builtin.max2 x y))
def Zyo (x y:Value):Sem Next:=do pure (.value (<- Builtin.min2 x y))
theorem execOp_max (a:Act) (dst:Option Tmp) (x y:Operand) (ty:TypeId) (pos:String) (after:Array Edge) (guard:Option (Nat×Bool)) :
  execOp a.eval { dst,op:=.call { callee:=.builtin .max,args:=#[x,y],argTypes:=#[3,3] },type:=ty,pos,after,guard }=Zyp (a.eval x) (a.eval y):=by
 simp[execOp,resolve,invoke,builtin,Builtin.max_,Zyp]
theorem execOp_min (a:Act) (dst:Option Tmp) (x y:Operand) (ty:TypeId) (pos:String) (after:Array Edge) (guard:Option (Nat×Bool)) :
  execOp a.eval { dst,op:=.call { callee:=.builtin .min,args:=#[x,y],argTypes:=#[3,3] },type:=ty,pos,after,guard }=Zyo (a.eval x) (a.eval y):=by
 simp[execOp,resolve,invoke,builtin,Builtin.min_,Zyo]
theorem run_maxOp {P:Program} (k k2:IntKind) (x y:Int) (w:World):(Zyp (.int k x) (.int k2 y)).run P w=.ok (.value (.int k (max x y))) w:=by
 unfold Zyp;rw[Yba];rfl
theorem run_minOp {P:Program} (k k2:IntKind) (x y:Int) (w:World):(Zyo (.int k x) (.int k2 y)).run P w=.ok (.value (.int k (min x y))) w:=by
 unfold Zyo;rw[Ya9];rfl
theorem Zne (n:Int):min (max n 0) 40=(Zal n:Int):=by unfold Zal;omega
end RelA
namespace RelA
theorem At.next {w w':World} {b n:Nat} {R:Nat->Nat} (h:At w b n R) (hb:Below w.heap.size w w'):At w' b n R:=h.below hb h.lt
theorem Tab.pos {w:World} (h:Tab w):0<w.heap.size:=block_lt_of_cell (h 0 (by decide))
theorem Tab.next {w w':World} (h:Tab w) (hb:Below w.heap.size w w'):Tab w':=h.below hb h.pos
theorem Zab {w w1 w2:World} (h:Below w.heap.size w w1) (g:Below w1.heap.size w1 w2):Below w.heap.size w w2:=h.trans (g.mono h.size)
theorem Yf6 {w:World} {base:Nat} {e:TypeId} {size:Nat} {v:Value} {n:Nat} {xs:List Value} (h:w.ownsRow base e size v n xs):∃ a c,v=.slice a n c:=by
 obtain⟨_,h | ⟨g,cap,cur,h,_⟩⟩:=h
 ·exact⟨none,0,by rw[h.1,h.2]⟩
 ·exact⟨_,_,h⟩
theorem Zol (n:Nat) (l:List (Int×Int)) (hn:n<=40) (i:Nat):Zqu n l i<2 ^ 40:=Nat.lt_of_lt_of_le (Zv3 n l i) (Nat.pow_le_pow_right (by omega) hn)
end RelA
end
section
namespace RelA
theorem Ya8 (N:Nat) (l:List (Int×Int)) (i j:Nat):(Zqu N l i).testBit j=true↔∃ p∈l,inB N p.1=true/\inB N p.2=true/\p.1=i/\p.2=j:=by
 unfold Zqu
 have key:∀ (l:List (Int×Int)) (R:Nat->Nat),(l.foldl (Zd3 N) R i).testBit j=true↔(R i).testBit j=true∨∃ p∈l,inB N p.1=true/\inB N p.2=true/\p.1=i/\p.2=j:=by
  intro l
  induction l with
  | nil=>intro R;simp
  | cons p l ih=>
   intro R
   rw[List.foldl_cons,ih]
   have hstep:(Zd3 N R p i).testBit j=true↔(R i).testBit j=true∨(inB N p.1=true/\inB N p.2=true/\p.1=i/\p.2=j):=by
    unfold Zd3
    cases h1:inB N p.1<;>cases h2:inB N p.2<;>simp only[Bool.and_false,Bool.and_true,Bool.false_eq_true,if_false,if_true,false_and,and_false,or_false,true_and]
    have g1:=of_decide_eq_true h1
    have g2:=of_decide_eq_true h2
    unfold upd
    by_cases e:i=p.1.toNat
    ·rw[if_pos e,<- e,Nat.testBit_or,Bool.or_eq_true,Nat.testBit_two_pow,decide_eq_true_eq]
     constructor
     ·rintro(h | h)
      ·exact .inl h
      ·exact .inr ⟨by omega,by omega⟩
     ·rintro(h | ⟨_,h⟩)
      ·exact .inl h
      ·exact .inr (by omega)
    ·rw[if_neg e]
     constructor
     ·exact .inl
     ·rintro(h | ⟨h,_⟩)
      ·exact h
      ·omega
   rw[hstep]
   constructor
   ·rintro((h | h) | ⟨q,hq,h⟩)
    ·exact .inl h
    ·exact .inr ⟨p,by simp,h⟩
    ·exact .inr ⟨q,by simp[hq],h⟩
   ·rintro(h | ⟨q,hq,h⟩)
    ·exact .inl (.inl h)
    ·rcases List.mem_cons.1 hq with rfl | hq
     ·exact .inl (.inr h)
     ·exact .inr ⟨q,hq,h⟩
 rw[key]
 simp
def Zdz (l:List (Nat×Nat)):List (Int×Int):=l.map fun p=>((p.1:Int),(p.2:Int))
theorem Znk (l:List (Nat×Nat)) (i:Nat) (hi:i<l.length):(Zat l)[i*2]?=some (.int .i64 ((Zdz l).getD i (0,0)).1)/\(Zat l)[i*2+1]?=some (.int .i64 ((Zdz l).getD i (0,0)).2):=by
 induction l generalizing i with
 | nil=>simp at hi
 | cons p l ih=>
  cases i with
  | zero=>exact⟨rfl,rfl⟩
  | succ i=>
   have:=ih i (by simpa using hi)
   have e1:(i+1)*2=i*2+2:=by omega
   rw[e1]
   exact this
theorem Zx6 (l:List (Nat×Nat)):(Zdz l).length=l.length:=by simp[Zdz]
end RelA
end
end Go.Proofs.YthcnhbclagegeaaGreatDoor
