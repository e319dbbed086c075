/-
  What the functions that the law reaches do, one by one: contracts. Conditions: those that each of them prints.
-/
import Derived.Test.YthcnhbclagegeaaGreatDoorMb
import Derived.Test.YthcnhbclagegeaaGreatDoorMd
import Derived.Laws.AppendOwnNone
namespace Go.Proofs.YthcnhbclagegeaaGreatDoor
open Go.RowKit RelA
section
namespace RelA
theorem Yb4 (R:Nat->Nat) (j i:Nat):(Zpn R j).testBit i=true↔i<40/\(R i).testBit j=true:=by
 unfold Zpn;rw[Zbi];simp
theorem Yhh (S:Nat->Nat) (x i:Nat) (hS:∀ i,S i<2 ^ 40) (hx:x<2 ^ 40):(U S x).testBit i=true↔∃ j,x.testBit j=true/\(S j).testBit i=true:=by
 rw[Zuj]
 constructor
 ·rintro⟨_,j,_,h⟩;exact⟨j,h⟩
 ·rintro⟨j,h1,h2⟩;exact⟨Zhe (hS j) h2,j,Zhe hx h1,h1,h2⟩
theorem Zv2 {a b:Nat} (h:a<2 ^ 40) (g:b<2 ^ 40):a|||b<2 ^ 40:=Nat.or_lt_two_pow h g
theorem Zre {a b:Nat} (h:a<2 ^ 40) (g:b<2 ^ 40):a ^^^ b<2 ^ 40:=Nat.xor_lt_two_pow h g
theorem Zsr {a b:Nat} (h:b<2 ^ 40):a&&&b<2 ^ 40:=Nat.and_lt_two_pow _ h
end RelA
end
section
namespace RelA
def Lk (R:Nat->Nat) (M:Nat->Nat->Bool):Prop:=∀ i j,(R i).testBit j=true↔M i j=true
theorem Zkf (N:Nat) (l:List (Int×Int)) (i j:Nat):Zic N l i j=true↔∃ p∈l,inB N p.1=true/\inB N p.2=true/\p.1=i/\p.2=j:=by
 unfold Zic
 have key:∀ (l:List (Int×Int)) (M:Nat->Nat->Bool),l.foldl (Zib N) M i j=true↔M i j=true∨∃ p∈l,inB N p.1=true/\inB N p.2=true/\p.1=i/\p.2=j:=by
  intro l
  induction l with
  | nil=>intro M;simp
  | cons p l ih=>
   intro M
   rw[List.foldl_cons,ih]
   have hstep:Zib N M p i j=true↔M i j=true∨(inB N p.1=true/\inB N p.2=true/\p.1=i/\p.2=j):=by
    unfold Zib
    cases h1:inB N p.1<;>cases h2:inB N p.2<;>simp only[Bool.and_false,Bool.and_true,Bool.false_eq_true,if_false,if_true,false_and,and_false,or_false,true_and]
    have g1:=of_decide_eq_true h1
    have g2:=of_decide_eq_true h2
    unfold Zkw
    by_cases e:i=p.1.toNat/\j=p.2.toNat
    ·rw[if_pos e]
     simp only[true_iff]
     exact .inr ⟨by omega,by omega⟩
    ·rw[if_neg e]
     constructor
     ·exact .inl
     ·rintro(h | ⟨h,g⟩)
      ·exact h
      ·exact absurd ⟨by omega,by omega⟩ e
   rw[hstep]
   constructor
   ·rintro((h | h) | ⟨q,hq,h⟩)
    ·exact .inl h
    ·exact .inr ⟨p,by simp,h⟩
    ·exact .inr ⟨q,by simp[hq],h⟩
   ·rintro(h | ⟨q,hq,h⟩)
    ·exact .inl (.inl h)
    ·rcases List.mem_cons.1 hq with rfl | hq
     ·exact .inl (.inr h)
     ·exact .inr ⟨q,hq,h⟩
 rw[key]
 simp
theorem Ydg (N:Nat) (l:List (Int×Int)):Lk (Zqu N l) (Zic N l):=fun i j=>by rw[Ya8,Zkf]
theorem Zdo (N:Nat) (l:List (Int×Int)):WFM N (Zic N l):=by
 intro i j h
 obtain⟨p,_,h1,h2,h3,h4⟩:=(Zkf N l i j).1 h
 have g1:=of_decide_eq_true h1
 have g2:=of_decide_eq_true h2
 omega
theorem Zto (N:Nat) (p:Nat->Bool) (hN:N<=40) (h:∀ j,p j=true->j<N):(List.range 40).filter p=(List.range N).filter p:=by
 have e:List.range 40=List.range N++List.range' N (40-N):=by
  rw[List.range_eq_range',List.range_eq_range']
  have:=List.range'_append_1 (s:=0) (m:=N) (n:=40-N)
  rw[Nat.zero_add] at this
  rw[this]
  congr 1;omega
 rw[e,List.filter_append]
 have:(List.range' N (40-N)).filter p=[]:=by
  rw[List.filter_eq_nil_iff]
  intro a ha hp
  have:=List.mem_range'_1.1 ha
  have:=h a hp
  omega
 rw[this,List.append_nil]
theorem Zho {N:Nat} {R:Nat->Nat} {M:Nat->Nat->Bool} (hN:N<=40) (h:Lk R M) (hW:WFM N M):Zga R=Zay N M:=by
 have hrow:∀ i,Zb2 i (R i)=Zi5 M i N:=by
  intro i
  unfold Zb2 Ze1 Zi5
  have e:(fun j=>(R i).testBit j)=fun j=>M i j:=by
   funext j;rw[Bool.eq_iff_iff];exact h i j
  rw[e,Zto N _ hN fun j hj=>(hW i j hj).2]
 have hzero:∀ i,N<=i->Zi5 M i N=[]:=by
  intro i hi
  unfold Zi5
  have:(List.range N).filter (fun j=>M i j)=[]:=by
   rw[List.filter_eq_nil_iff]
   intro a _ hp
   have:=(hW i a hp).1
   omega
  rw[this];rfl
 have key:∀ k,pre R k=if k<=N then Zjb N M k else Zjb N M N:=by
  intro k
  induction k with
  | zero=>rw[if_pos (Nat.zero_le _)];rfl
  | succ k ih=>
   rw[Zm2,ih,hrow]
   by_cases h1:k+1<=N
   ·rw[if_pos (by omega),if_pos h1,Zhx]
   ·rw[if_neg h1,hzero k (by omega),List.append_nil]
    by_cases h2:k<=N
    ·rw[if_pos h2];congr 1;omega
    ·rw[if_neg h2]
 unfold Zga Zay
 rw[key]
 by_cases h1:40<=N
 ·rw[if_pos h1];congr 1;omega
 ·rw[if_neg h1]
theorem Zde (N:Nat) (F:Nat->Nat->Bool) (i j:Nat):Zdr N F i j=true↔i<N/\j<N/\F i j=true:=by
 unfold Zdr;simp[and_assoc]
theorem Yei (N:Nat) (F:Nat->Nat->Bool):WFM N (Zdr N F):=fun i j h=>by
 have:=(Zde N F i j).1 h
 omega
theorem Yrg {n m:Nat} {R S:Nat->Nat} {M T:Nat->Nat->Bool} (h:Lk R M) (g:Lk S T) (hW:WFM n M) (gW:WFM m T):Lk (fun i=>R i|||S i) (Zdr (max n m) fun i j=>M i j||T i j):=by
 intro i j
 rw[Zde,Nat.testBit_or,Bool.or_eq_true,Bool.or_eq_true,h i j,g i j]
 constructor
 ·rintro(a | a)
  ·have:=hW i j a;exact⟨by omega,by omega,.inl a⟩
  ·have:=gW i j a;exact⟨by omega,by omega,.inr a⟩
 ·exact fun a=>a.2.2
theorem Yk1 {n m:Nat} {R S:Nat->Nat} {M T:Nat->Nat->Bool} (h:Lk R M) (g:Lk S T) (hW:WFM n M):Lk (fun i=>R i&&&S i) (Zdr (max n m) fun i j=>M i j&&T i j):=by
 intro i j
 rw[Zde,Nat.testBit_and,Bool.and_eq_true,Bool.and_eq_true,h i j,g i j]
 constructor
 ·rintro⟨a,b⟩
  have:=hW i j a;exact⟨by omega,by omega,a,b⟩
 ·exact fun a=>a.2.2
theorem Zv7 {n m:Nat} {R S:Nat->Nat} {M T:Nat->Nat->Bool} (h:Lk R M) (g:Lk S T) (hW:WFM n M):Lk (fun i=>R i ^^^ (R i&&&S i)) (Zdr (max n m) fun i j=>M i j&&!T i j):=by
 intro i j
 have e:(R i ^^^ (R i&&&S i)).testBit j=((R i).testBit j&&!(S i).testBit j):=by
  rw[Nat.testBit_xor,Nat.testBit_and]
  cases (R i).testBit j<;>cases (S i).testBit j<;>rfl
 have e1:(R i).testBit j=M i j:=by rw[Bool.eq_iff_iff];exact h i j
 have e2:(S i).testBit j=T i j:=by rw[Bool.eq_iff_iff];exact g i j
 rw[Zde]
 show(R i ^^^ (R i&&&S i)).testBit j=true↔_
 rw[e,e1,e2]
 constructor
 ·intro a
  have:=hW i j (Bool.and_eq_true_iff.1 a).1
  exact⟨by omega,by omega,a⟩
 ·exact fun a=>a.2.2
theorem Ygf {n m:Nat} {R S:Nat->Nat} {M T:Nat->Nat->Bool} (h:Lk R M) (g:Lk S T) (hW:WFM n M) (gW:WFM m T) (hR:∀ i,R i<2 ^ 40) (hS:∀ i,S i<2 ^ 40):Lk (fun i=>U S (R i)) (Zph (max n m) M T):=by
 intro i j
 show(U S (R i)).testBit j=true↔_
 rw[Yhh S _ _ hS (hR i)]
 unfold Zph
 rw[Zde,List.any_eq_true]
 constructor
 ·rintro⟨k,a,b⟩
  have a2:=(h i k).1 a
  have b2:=(g k j).1 b
  have:=hW _ _ a2
  have:=gW _ _ b2
  exact⟨by omega,by omega,k,List.mem_range.2 (by omega),by rw[a2,b2];rfl⟩
 ·rintro⟨_,_,k,_,a⟩
  have a:=Bool.and_eq_true_iff.1 a
  exact⟨k,(h i k).2 a.1,(g k j).2 a.2⟩
theorem Ygg {n:Nat} {R:Nat->Nat} {M:Nat->Nat->Bool} (h:Lk R M) (hW:WFM n M) (hn:n<=40):Lk (Zpn R) (fun i j=>Zdr n M j i):=by
 intro i j
 show(Zpn R i).testBit j=true↔Zdr n M j i=true
 rw[Yb4,Zde,h j i]
 constructor
 ·rintro⟨_,a⟩
  have:=hW _ _ a
  exact⟨by omega,by omega,a⟩
 ·rintro⟨a,_,b⟩
  exact⟨by omega,b⟩
theorem Zv1 {R:Nat->Nat} {M:Nat->Nat->Bool} (h:Lk R M) (i j:Nat):Zyk R i j↔Zg9 M i j:=by
 have e:(fun a b=>(R a).testBit b=true)=fun a b=>M a b=true:=by
  funext a b;exact propext (h a b)
 unfold Zyk Zg9
 rw[e]
theorem Zv6 {R:Nat->Nat} {M T:Nat->Nat->Bool} (h:Lk R M) (hT:∀ i j,T i j=true↔Zg9 M i j) (hR:∀ i,R i<2 ^ 40):Lk (Zk0 R) T:=by
 intro i j
 rw[Zoi,hT,Zv1 h]
 exact⟨fun a=>a.2,fun a=>⟨Zv0 hR ((Zv1 h i j).2 a),a⟩⟩
theorem Ybb {n:Nat} {R:Nat->Nat} {M:Nat->Nat->Bool} (h:Lk R M):Lk (fun i=>if i<n then R i|||2 ^ i else R i) (fun i j=>(decide (i=j)&&decide (i<n))||M i j):=by
 intro i j
 show(if i<n then R i|||2 ^ i else R i).testBit j=true↔((decide (i=j)&&decide (i<n))||M i j)=true
 rw[Bool.or_eq_true,Bool.and_eq_true,decide_eq_true_eq,decide_eq_true_eq]
 split
 ·rename_i hi
  rw[Nat.testBit_or,Bool.or_eq_true,Nat.testBit_two_pow,decide_eq_true_eq,h i j]
  constructor
  ·rintro(a | a)
   ·exact .inr a
   ·exact .inl ⟨a,hi⟩
  ·rintro(a | a)
   ·exact .inr a.1
   ·exact .inl a
 ·rename_i hi
  rw[h i j]
  constructor
  ·exact .inr
  ·rintro(a | a)
   ·exact absurd a.2 hi
   ·exact a
theorem Zy6 {n:Nat} {M:Nat->Nat->Bool} (hW:WFM n M):WFM n (fun i j=>(decide (i=j)&&decide (i<n))||M i j):=by
 intro i j a
 have a:((decide (i=j)&&decide (i<n))||M i j)=true:=a
 rw[Bool.or_eq_true,Bool.and_eq_true,decide_eq_true_eq,decide_eq_true_eq] at a
 rcases a with a | a
 ·omega
 ·exact hW i j a
theorem Yrj {n m:Nat} {R S:Nat->Nat} {M T:Nat->Nat->Bool} (h:Lk R M) (g:Lk S T) (hW:WFM n M) (hn:n<=40) (hm:m<=40) (hR:∀ i,R i<2 ^ 40) :
  (((Zay (max n m) (Zdr (max n m) fun i j=>M i j&&!T i j)).length:Int)==0)=inR R S:=by
 rw[Bool.eq_iff_iff,beq_iff_eq]
 have hl:=Zv7 (m:=m) h g hW
 have hp:=Zho (show max n m<=40 by omega) hl (Yei _ _)
 rw[<- hp]
 unfold inR
 rw[Zhw]
 have hz:((Zga fun i=>R i ^^^ (R i&&&S i)).length:Int)=0↔∀ i,i<40->R i ^^^ (R i&&&S i)=0:=by
  constructor
  ·intro h0 i hi
   have h0:Zga (fun i=>R i ^^^ (R i&&&S i))=[]:=List.length_eq_zero_iff.1 (by omega)
   unfold Zga pre at h0
   rw[List.flatMap_eq_nil_iff] at h0
   have h1:=h0 i (List.mem_range.2 hi)
   unfold Zb2 Ze1 at h1
   rw[List.map_eq_nil_iff,List.filter_eq_nil_iff] at h1
   apply Nat.eq_of_testBit_eq
   intro j
   rw[Nat.zero_testBit,<- Bool.not_eq_true]
   intro hb
   have hj:j<40:=Zhe (x:=R i ^^^ (R i&&&S i)) (Zre (hR i) (Nat.lt_of_le_of_lt Nat.and_le_left (hR i))) hb
   exact h1 j (List.mem_range.2 hj) hb
  ·intro h0
   have:Zga (fun i=>R i ^^^ (R i&&&S i))=[]:=by
    unfold Zga pre
    rw[List.flatMap_eq_nil_iff]
    intro i hi
    show Zb2 i (R i ^^^ (R i&&&S i))=[]
    rw[h0 i (List.mem_range.1 hi)]
    unfold Zb2
    rw[Zi4];rfl
   rw[this];rfl
 rw[hz]
 have one:∀ a b:Nat,a ^^^ (a&&&b)=0↔a|||b=b:=by
  intro a b
  constructor
  ·intro h0
   apply Nat.eq_of_testBit_eq
   intro j
   have:=congrArg (fun x=>Nat.testBit x j) h0
   simp only[Nat.testBit_xor,Nat.testBit_and,Nat.zero_testBit] at this
   rw[Nat.testBit_or]
   revert this
   cases a.testBit j<;>cases b.testBit j<;>simp
  ·intro h0
   apply Nat.eq_of_testBit_eq
   intro j
   have:=congrArg (fun x=>Nat.testBit x j) h0
   simp only[Nat.testBit_or] at this
   rw[Nat.testBit_xor,Nat.testBit_and,Nat.zero_testBit]
   revert this
   cases a.testBit j<;>cases b.testBit j<;>simp
 exact⟨fun a i hi=>(one _ _).1 (a i hi),fun a i hi=>(one _ _).2 (a i hi)⟩
end RelA
end
section
attribute [local irreducible] RelA.rcells
namespace RelA
def PIn (w:World) (a:Option Addr) (L:List (Int×Int)) (c:Nat):Prop:=
 (a=none/\L=[]/\c=0)∨(∃ ad,a=some ad/\L=[])∨∃ b o,a=some ⟨b,o,none⟩/\b<w.heap.size/\∀ i,i<L.length ->
  w.cell? ⟨b,o+i*2,none⟩=some (.int .i64 (L.getD i (0,0)).1)/\w.cell? ⟨b,o+i*2+1,none⟩=some (.int .i64 (L.getD i (0,0)).2)
theorem PIn.next {w w':World} {a:Option Addr} {L:List (Int×Int)} {c:Nat} (h:PIn w a L c) (hb:Below w.heap.size w w'):PIn w' a L c:=by
 rcases h with h | h | ⟨b,o,h1,h2,h3⟩
 ·exact .inl h
 ·exact .inr (.inl h)
 ·exact .inr (.inr ⟨b,o,h1,Nat.lt_of_lt_of_le h2 hb.size,fun i hi=>⟨(hb.cell (p:=⟨b,o+i*2,none⟩) h2).trans (h3 i hi).1,(hb.cell (p:=⟨b,o+i*2+1,none⟩) h2).trans (h3 i hi).2⟩⟩)
def Zdc (l:List (Int×Int)):List Value:=l.flatMap fun p=>[.int .i64 p.1,.int .i64 p.2]
theorem Ztn (l:List (Int×Int)) (i:Nat) (hi:i<l.length):(Zdc l)[i*2]?=some (.int .i64 (l.getD i (0,0)).1)/\(Zdc l)[i*2+1]?=some (.int .i64 (l.getD i (0,0)).2):=by
 induction l generalizing i with
 | nil=>simp at hi
 | cons p l ih=>
  cases i with
  | zero=>exact⟨rfl,rfl⟩
  | succ i=>
   have:=ih i (by simpa using hi)
   have e1:(i+1)*2=i*2+2:=by omega
   rw[e1]
   exact this
end RelA
theorem Ya7 (n:Int) (base:Nat) (v:Value) (L:List (Int×Int)) (w:World) (hown:w.ownsRow base 56 2 v L.length (Zdc L)) :
  Calls Tryz.prog 152 #[.int .i64 n,v] w fun e w'=>e=.returned (.pointer (some ⟨w.heap.size,0,none⟩))/\At w' w.heap.size (Zal n) (Zqu (Zal n) L)/\Below w.heap.size w w':=by
 obtain⟨hl,⟨rfl,h0⟩ | ⟨g,cap,cur,rfl,hg,hcur,hc1,hc2,hc3,hc4⟩⟩:=hown
 ·have:L=[]:=List.length_eq_zero_iff.1 h0
  subst this
  exact Yga n w
 ·have hget:∀ j,j<L.length*2->w.cell? ⟨g,j,none⟩=(Zdc L)[j]?:=by
   intro j hj
   rw[cell_of_row w g j cur _ _ hcur,<- hc4,List.getElem?_take,if_pos hj]
   simp
  exact Zr3 n g 0 L cap w (by omega) (Array.getElem?_eq_some_iff.1 hcur).1 (fun i hi=>by
   have hp:=Ztn L i hi
   rw[Nat.zero_add,hget _ (by omega),hget _ (by omega)]
   exact hp)
section
attribute [local go_sem ↓ high] RelA.execOp_max RelA.execOp_min
attribute [local go_sem ↓] RelA.execOp_build_ref
attribute [local go_sem] RelA.run_maxOp RelA.run_minOp RelA.run_buildRef
set_option maxRecDepth 20000 in
set_option maxHeartbeats 800000 in
theorem Zof (n:Int) (a:Option Addr) (c:Nat) (w:World) :
  Calls Tryz.prog 101 #[.int .i64 n,.slice a 0 c] w fun e w'=>e=.returned (.pointer (some ⟨w.heap.size,0,none⟩))/\RAt w' w.heap.size (Zal n) (fun _ _=>false)/\Below w.heap.size w w':=by
 have hcn:=Zne n
 generalize Zal n=N at *
 go_enter Tryz.func101,Tryz.ntmps101
 go_wp2_with fail
 go_loopw [6] (fun i wr=>i=.int .i64 0/\RAt wr w.heap.size N (fun _ _=>false)/\Below w.heap.size w wr) (fun i _=>0)
 case atStart=>exact⟨rfl,(by unfold RAt;rw[<- Zzr];exact heap_alloc_new _ _),jb⟩
 case round=>
  obtain⟨rfl,hat,hbe⟩:=hrel
  have HAT:=jh hat
  clear hat
  go_wp2_with fail
  go_ret
  exact⟨rfl,HAT.out,hbe⟩
end
end
end Go.Proofs.YthcnhbclagegeaaGreatDoor
