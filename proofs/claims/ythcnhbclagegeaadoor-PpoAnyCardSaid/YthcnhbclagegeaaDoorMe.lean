/-
  What the functions that the law reaches do, one by one: contracts. Conditions: Zcj that each of them prints.
-/
import Derived.Test.YthcnhbclagegeaaDoorMb
import Derived.Test.YthcnhbclagegeaaDoorMd
import Derived.Laws.AppendOwnNone
namespace Go.Proofs.YthcnhbclagegeaaDoor
open Go.RowKit RelA
namespace RelA
theorem Yfd (R:Nat->Nat) (j i:Nat):(Zqj R j).testBit i=true ↔ i < 40/\(R i).testBit j=true:=by
 unfold Zqj; rw [Zbe]; simp
theorem Ypf (S:Nat->Nat) (x i:Nat) (hS:∀ i,S i < 2 ^ 40) (hx:x < 2 ^ 40):(U S x).testBit i=true ↔ ∃ j,x.testBit j=true/\(S j).testBit i=true:=by
 rw [Zwi]
 constructor
 ·rintro ⟨_,j,_,h⟩; exact ⟨j,h⟩
 ·rintro ⟨j,h1,h2⟩; exact ⟨Zhd (hS j) h2,j,Zhd hx h1,h1,h2⟩
theorem Yl6 {a b:Nat} (h:a < 2 ^ 40) (g:b < 2 ^ 40):a ||| b < 2 ^ 40:=Nat.or_lt_two_pow h g
theorem Zr9 {a b:Nat} (h:a < 2 ^ 40) (g:b < 2 ^ 40):a ^^^ b < 2 ^ 40:=Nat.xor_lt_two_pow h g
theorem Zti {a b:Nat} (h:b < 2 ^ 40):a &&& b < 2 ^ 40:=Nat.and_lt_two_pow _ h
end RelA
end Go.Proofs.YthcnhbclagegeaaDoor
namespace Go.Proofs.YthcnhbclagegeaaDoor
open Go.RowKit RelA
namespace RelA
def Lk (R:Nat->Nat) (M:Nat->Nat->Bool):Prop:=∀ i j,(R i).testBit j=true ↔ M i j=true
theorem Zkd (N:Nat) (l:List (Int × Int)) (i j:Nat):Zhz N l i j=true ↔ ∃ p ∈ l,inB N p.1=true/\inB N p.2=true/\p.1=i/\p.2=j:=by
 unfold Zhz
 have key:∀ (l:List (Int × Int)) (M:Nat->Nat->Bool),l.foldl (Zhy N) M i j=true ↔ M i j=true ∨ ∃ p ∈ l,inB N p.1=true/\inB N p.2=true/\p.1=i/\p.2=j:=by
  intro l
  induction l with
  | nil=>intro M; simp
  | cons p l ih=>
   intro M
   rw [List.foldl_cons,ih]
   have hstep:Zhy N M p i j=true ↔ M i j=true ∨ (inB N p.1=true/\inB N p.2=true/\p.1=i/\p.2=j):=by
    unfold Zhy
    cases h1:inB N p.1 <;> cases h2:inB N p.2 <;> simp only [Bool.and_false,Bool.and_true,Bool.false_eq_true,if_false,if_true,false_and,and_false,or_false,true_and]
    have g1:=of_decide_eq_true h1
    have g2:=of_decide_eq_true h2
    unfold Zob
    by_cases e:i=p.1.toNat/\j=p.2.toNat
    ·rw [if_pos e]
     simp only [true_iff]
     exact .inr ⟨by omega,by omega⟩
    ·rw [if_neg e]
     constructor
     ·exact .inl
     ·rintro (h | ⟨h,g⟩)
      ·exact h
      ·exact absurd ⟨by omega,by omega⟩ e
   rw [hstep]
   constructor
   ·rintro ((h | h) | ⟨q,hq,h⟩)
    ·exact .inl h
    ·exact .inr ⟨p,by simp,h⟩
    ·exact .inr ⟨q,by simp [hq],h⟩
   ·rintro (h | ⟨q,hq,h⟩)
    ·exact .inl (.inl h)
    ·rcases List.mem_cons.1 hq with rfl | hq
     ·exact .inl (.inr h)
     ·exact .inr ⟨q,hq,h⟩
 rw [key]
 simp
theorem Ygv (N:Nat) (l:List (Int × Int)):Lk (Zrj N l) (Zhz N l):=fun i j=>by rw [Ydy,Zkd]
theorem Zrn (N:Nat) (l:List (Int × Int)):WFM N (Zhz N l):=by
 intro i j h
 obtain ⟨p,_,h1,h2,h3,h4⟩:=(Zkd N l i j).1 h
 have g1:=of_decide_eq_true h1
 have g2:=of_decide_eq_true h2
 omega
theorem Zui (N:Nat) (p:Nat->Bool) (hN:N<=40) (h:∀ j,p j=true->j < N):(List.range 40).filter p=(List.range N).filter p:=by
 have e:List.range 40=List.range N ++ List.range' N (40 - N):=by
  rw [List.range_eq_range',List.range_eq_range']
  have:=List.range'_append_1 (s:=0) (m:=N) (n:=40 - N)
  rw [Nat.zero_add] at this
  rw [this]
  congr 1; omega
 rw [e,List.filter_append]
 have:(List.range' N (40 - N)).filter p=[]:=by
  rw [List.filter_eq_nil_iff]
  intro a ha hp
  have:=List.mem_range'_1.1 ha
  have:=h a hp
  omega
 rw [this,List.append_nil]
theorem Zi0 {N:Nat} {R:Nat->Nat} {M:Nat->Nat->Bool} (hN:N<=40) (h:Lk R M) (hW:WFM N M):Zgb R=Zbh N M:=by
 have hrow:∀ i,Zbx i (R i)=Zjf M i N:=by
  intro i
  unfold Zbx Ze1 Zjf
  have e:(fun j=>(R i).testBit j)=fun j=>M i j:=by
   funext j; rw [Bool.eq_iff_iff]; exact h i j
  rw [e,Zui N _ hN fun j hj=>(hW i j hj).2]
 have hzero:∀ i,N<=i->Zjf M i N=[]:=by
  intro i hi
  unfold Zjf
  have:(List.range N).filter (fun j=>M i j)=[]:=by
   rw [List.filter_eq_nil_iff]
   intro a _ hp
   have:=(hW i a hp).1
   omega
  rw [this]; rfl
 have key:∀ k,pre R k=if k<=N then Zku N M k else Zku N M N:=by
  intro k
  induction k with
  | zero=>rw [if_pos (Nat.zero_le _)]; rfl
  | succ k ih=>
   rw [Znp,ih,hrow]
   by_cases h1:k + 1<=N
   ·rw [if_pos (by omega),if_pos h1,Zhr]
   ·rw [if_neg h1,hzero k (by omega),List.append_nil]
    by_cases h2:k<=N
    ·rw [if_pos h2]; congr 1; omega
    ·rw [if_neg h2]
 unfold Zgb Zbh
 rw [key]
 by_cases h1:40<=N
 ·rw [if_pos h1]; congr 1; omega
 ·rw [if_neg h1]
theorem Zdc (N:Nat) (F:Nat->Nat->Bool) (i j:Nat):Zdk N F i j=true ↔ i < N/\j < N/\F i j=true:=by
 unfold Zdk; simp [and_assoc]
theorem Yim (N:Nat) (F:Nat->Nat->Bool):WFM N (Zdk N F):=fun i j h=>by
 have:=(Zdc N F i j).1 h
 omega
theorem Xak {n m:Nat} {R S:Nat->Nat} {M T:Nat->Nat->Bool} (h:Lk R M) (g:Lk S T) (hW:WFM n M) (gW:WFM m T):Lk (fun i=>R i ||| S i) (Zdk (max n m) fun i j=>M i j || T i j):=by
 intro i j
 rw [Zdc,Nat.testBit_or,Bool.or_eq_true,Bool.or_eq_true,h i j,g i j]
 constructor
 ·rintro (a | a)
  ·have:=hW i j a; exact ⟨by omega,by omega,.inl a⟩
  ·have:=gW i j a; exact ⟨by omega,by omega,.inr a⟩
 ·exact fun a=>a.2.2
theorem Yt2 {n m:Nat} {R S:Nat->Nat} {M T:Nat->Nat->Bool} (h:Lk R M) (g:Lk S T) (hW:WFM n M):Lk (fun i=>R i &&& S i) (Zdk (max n m) fun i j=>M i j && T i j):=by
 intro i j
 rw [Zdc,Nat.testBit_and,Bool.and_eq_true,Bool.and_eq_true,h i j,g i j]
 constructor
 ·rintro ⟨a,b⟩
  have:=hW i j a; exact ⟨by omega,by omega,a,b⟩
 ·exact fun a=>a.2.2
theorem Zx6 {n m:Nat} {R S:Nat->Nat} {M T:Nat->Nat->Bool} (h:Lk R M) (g:Lk S T) (hW:WFM n M):Lk (fun i=>R i ^^^ (R i &&& S i)) (Zdk (max n m) fun i j=>M i j && !T i j):=by
 intro i j
 have e:(R i ^^^ (R i &&& S i)).testBit j=((R i).testBit j && !(S i).testBit j):=by
  rw [Nat.testBit_xor,Nat.testBit_and]
  cases (R i).testBit j <;> cases (S i).testBit j <;> rfl
 have e1:(R i).testBit j=M i j:=by rw [Bool.eq_iff_iff]; exact h i j
 have e2:(S i).testBit j=T i j:=by rw [Bool.eq_iff_iff]; exact g i j
 rw [Zdc]
 show (R i ^^^ (R i &&& S i)).testBit j=true ↔ _
 rw [e,e1,e2]
 constructor
 ·intro a
  have:=hW i j (Bool.and_eq_true_iff.1 a).1
  exact ⟨by omega,by omega,a⟩
 ·exact fun a=>a.2.2
theorem Yme {n m:Nat} {R S:Nat->Nat} {M T:Nat->Nat->Bool} (h:Lk R M) (g:Lk S T) (hW:WFM n M) (gW:WFM m T) (hR:∀ i,R i < 2 ^ 40) (hS:∀ i,S i < 2 ^ 40):Lk (fun i=>U S (R i)) (Zqb (max n m) M T):=by
 intro i j
 show (U S (R i)).testBit j=true ↔ _
 rw [Ypf S _ _ hS (hR i)]
 unfold Zqb
 rw [Zdc,List.any_eq_true]
 constructor
 ·rintro ⟨k,a,b⟩
  have a2:=(h i k).1 a
  have b2:=(g k j).1 b
  have:=hW _ _ a2
  have:=gW _ _ b2
  exact ⟨by omega,by omega,k,List.mem_range.2 (by omega),by rw [a2,b2]; rfl⟩
 ·rintro ⟨_,_,k,_,a⟩
  have a:=Bool.and_eq_true_iff.1 a
  exact ⟨k,(h i k).2 a.1,(g k j).2 a.2⟩
theorem Ymf {n:Nat} {R:Nat->Nat} {M:Nat->Nat->Bool} (h:Lk R M) (hW:WFM n M) (hn:n<=40):Lk (Zqj R) (fun i j=>Zdk n M j i):=by
 intro i j
 show (Zqj R i).testBit j=true ↔ Zdk n M j i=true
 rw [Yfd,Zdc,h j i]
 constructor
 ·rintro ⟨_,a⟩
  have:=hW _ _ a
  exact ⟨by omega,by omega,a⟩
 ·rintro ⟨a,_,b⟩
  exact ⟨by omega,b⟩
theorem Xan {n m:Nat} {R S:Nat->Nat} {M T:Nat->Nat->Bool} (h:Lk R M) (g:Lk S T) (hW:WFM n M) (hn:n<=40) (hm:m<=40) (hR:∀ i,R i < 2 ^ 40) :
  (((Zbh (max n m) (Zdk (max n m) fun i j=>M i j && !T i j)).length:Int) == 0)=inR R S:=by
 rw [Bool.eq_iff_iff,beq_iff_eq]
 have hl:=Zx6 (m:=m) h g hW
 have hp:=Zi0 (show max n m<=40 by omega) hl (Yim _ _)
 rw [<- hp]
 unfold inR
 rw [Zo5]
 have hz:((Zgb fun i=>R i ^^^ (R i &&& S i)).length:Int)=0 ↔ ∀ i,i < 40->R i ^^^ (R i &&& S i)=0:=by
  constructor
  ·intro h0 i hi
   have h0:Zgb (fun i=>R i ^^^ (R i &&& S i))=[]:=List.length_eq_zero_iff.1 (by omega)
   unfold Zgb pre at h0
   rw [List.flatMap_eq_nil_iff] at h0
   have h1:=h0 i (List.mem_range.2 hi)
   unfold Zbx Ze1 at h1
   rw [List.map_eq_nil_iff,List.filter_eq_nil_iff] at h1
   apply Nat.eq_of_testBit_eq
   intro j
   rw [Nat.zero_testBit,<- Bool.not_eq_true]
   intro hb
   have hj:j < 40:=Zhd (x:=R i ^^^ (R i &&& S i)) (Zr9 (hR i) (Nat.lt_of_le_of_lt Nat.and_le_left (hR i))) hb
   exact h1 j (List.mem_range.2 hj) hb
  ·intro h0
   have:Zgb (fun i=>R i ^^^ (R i &&& S i))=[]:=by
    unfold Zgb pre
    rw [List.flatMap_eq_nil_iff]
    intro i hi
    show Zbx i (R i ^^^ (R i &&& S i))=[]
    rw [h0 i (List.mem_range.1 hi)]
    unfold Zbx
    rw [Ziq]; rfl
   rw [this]; rfl
 rw [hz]
 have one:∀ a b:Nat,a ^^^ (a &&& b)=0 ↔ a ||| b=b:=by
  intro a b
  constructor
  ·intro h0
   apply Nat.eq_of_testBit_eq
   intro j
   have:=congrArg (fun x=>Nat.testBit x j) h0
   simp only [Nat.testBit_xor,Nat.testBit_and,Nat.zero_testBit] at this
   rw [Nat.testBit_or]
   revert this
   cases a.testBit j <;> cases b.testBit j <;> simp
  ·intro h0
   apply Nat.eq_of_testBit_eq
   intro j
   have:=congrArg (fun x=>Nat.testBit x j) h0
   simp only [Nat.testBit_or] at this
   rw [Nat.testBit_xor,Nat.testBit_and,Nat.zero_testBit]
   revert this
   cases a.testBit j <;> cases b.testBit j <;> simp
 exact ⟨fun a i hi=>(one _ _).1 (a i hi),fun a i hi=>(one _ _).2 (a i hi)⟩
end RelA
end Go.Proofs.YthcnhbclagegeaaDoor
namespace Go.Proofs.YthcnhbclagegeaaDoor
open Go.RowKit RelA
attribute [local irreducible] RelA.rcells
namespace RelA
def PIn (w:World) (a:Option Addr) (L:List (Int × Int)) (c:Nat):Prop:=
 (a=none/\L=[]/\c=0) ∨ (∃ ad,a=some ad/\L=[]) ∨ ∃ b o,a=some ⟨b,o,none⟩/\b < w.heap.size/\∀ i,i < L.length ->
  w.cell? ⟨b,o + i * 2,none⟩=some (.int .i64 (L.getD i (0,0)).1)/\w.cell? ⟨b,o + i * 2 + 1,none⟩=some (.int .i64 (L.getD i (0,0)).2)
theorem PIn.next {w w':World} {a:Option Addr} {L:List (Int × Int)} {c:Nat} (h:PIn w a L c) (hb:Below w.heap.size w w'):PIn w' a L c:=by
 rcases h with h | h | ⟨b,o,h1,h2,h3⟩
 ·exact .inl h
 ·exact .inr (.inl h)
 ·exact .inr (.inr ⟨b,o,h1,Nat.lt_of_lt_of_le h2 hb.size,fun i hi=>⟨(hb.cell (p:=⟨b,o + i * 2,none⟩) h2).trans (h3 i hi).1,(hb.cell (p:=⟨b,o + i * 2 + 1,none⟩) h2).trans (h3 i hi).2⟩⟩)
def Zda (l:List (Int × Int)):List Value:=l.flatMap fun p=>[.int .i64 p.1,.int .i64 p.2]
theorem Zuh (l:List (Int × Int)) (i:Nat) (hi:i < l.length):(Zda l)[i * 2]?=some (.int .i64 (l.getD i (0,0)).1)/\(Zda l)[i * 2 + 1]?=some (.int .i64 (l.getD i (0,0)).2):=by
 induction l generalizing i with
 | nil=>simp at hi
 | cons p l ih=>
  cases i with
  | zero=>exact ⟨rfl,rfl⟩
  | succ i=>
   have:=ih i (by simpa using hi)
   have e1:(i + 1) * 2=i * 2 + 2:=by omega
   rw [e1]
   exact this
end RelA
theorem Ydx (n:Int) (base:Nat) (v:Value) (L:List (Int × Int)) (w:World) (hown:w.ownsRow base 41 2 v L.length (Zda L)) :
  Calls Tryd.prog 20 #[.int .i64 n,v] w fun e w'=>e=.returned (.pointer (some ⟨w.heap.size,0,none⟩))/\At w' w.heap.size (Zaq n) (Zrj (Zaq n) L)/\Below w.heap.size w w':=by
 obtain ⟨hl,⟨rfl,h0⟩ | ⟨g,cap,cur,rfl,hg,hcur,hc1,hc2,hc3,hc4⟩⟩:=hown
 ·have:L=[]:=List.length_eq_zero_iff.1 h0
  subst this
  exact Yma n w
 ·have Zjh:∀ j,j < L.length * 2->w.cell? ⟨g,j,none⟩=(Zda L)[j]?:=by
   intro j hj
   rw [cell_of_row w g j cur _ _ hcur,<- hc4,List.getElem?_take,if_pos hj]
   simp
  exact Zss n g 0 L cap w (by omega) (Array.getElem?_eq_some_iff.1 hcur).1 (fun i hi=>by
   have hp:=Zuh L i hi
   rw [Nat.zero_add,Zjh _ (by omega),Zjh _ (by omega)]
   exact hp)
section
attribute [local go_sem ↓ high] RelA.execOp_max RelA.execOp_min
attribute [local go_sem ↓] RelA.execOp_build_ref
attribute [local go_sem] RelA.run_maxOp RelA.run_minOp RelA.run_buildRef
set_option maxRecDepth 20000 in
set_option maxHeartbeats 800000 in
theorem Zo7 (n:Int) (a:Option Addr) (c:Nat) (w:World) :
  Calls Tryd.prog 48 #[.int .i64 n,.slice a 0 c] w fun e w'=>e=.returned (.pointer (some ⟨w.heap.size,0,none⟩))/\RAt w' w.heap.size (Zaq n) (fun _ _=>false)/\Below w.heap.size w w':=by
 have hcn:=Zn2 n
 generalize Zaq n=N at *
 go_enter Tryd.func48,Tryd.ntmps48
 go_wp2_with fail
 go_loopw [6] (fun i wr=>i=.int .i64 0/\RAt wr w.heap.size N (fun _ _=>false)/\Below w.heap.size w wr) (fun i _=>0)
 case atStart=>exact ⟨rfl,(by unfold RAt; rw [<- Yc1]; exact heap_alloc_new _ _),(Below.refl _ _).alloc (Nat.le_refl _) _⟩
 case round=>
  obtain ⟨rfl,hat,hbe⟩:=hrel
  have HAT:=Lib.hid hat
  clear hat
  go_wp2_with fail
  go_ret
  exact ⟨rfl,HAT.out,hbe⟩
end
end Go.Proofs.YthcnhbclagegeaaDoor
