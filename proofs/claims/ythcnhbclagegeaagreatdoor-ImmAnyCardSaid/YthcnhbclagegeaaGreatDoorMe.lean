/-
  What the functions that the law reaches do, one by one: contracts. Conditions: those that each of them prints.
-/
import Derived.Test.YthcnhbclagegeaaGreatDoorMb
import Derived.Test.YthcnhbclagegeaaGreatDoorMd
import Derived.Laws.AppendOwnNone
namespace Go.Proofs.YthcnhbclagegeaaGreatDoor
open Go.RowKit RelA
namespace RelA
theorem back_bit (R:Nat→Nat) (j i:Nat):(backR R j).testBit i=true ↔ i < 40∧(R i).testBit j=true:=by
 unfold backR; rw [testBit_bitsOf]; simp
theorem U_bit40 (S:Nat→Nat) (x i:Nat) (hS:∀ i,S i < 2 ^ 40) (hx:x < 2 ^ 40):(U S x).testBit i=true ↔ ∃ j,x.testBit j=true∧(S j).testBit i=true:=by
 rw [U_bit]
 constructor
 ·rintro ⟨_,j,_,h⟩; exact ⟨j,h⟩
 ·rintro ⟨j,h1,h2⟩; exact ⟨bit_lt (hS j) h2,j,bit_lt hx h1,h1,h2⟩
theorem or_lt40 {a b:Nat} (h:a < 2 ^ 40) (g:b < 2 ^ 40):a ||| b < 2 ^ 40:=Nat.or_lt_two_pow h g
theorem xor_lt40 {a b:Nat} (h:a < 2 ^ 40) (g:b < 2 ^ 40):a ^^^ b < 2 ^ 40:=Nat.xor_lt_two_pow h g
theorem and_lt40 {a b:Nat} (h:b < 2 ^ 40):a &&& b < 2 ^ 40:=Nat.and_lt_two_pow _ h
end RelA
end Go.Proofs.YthcnhbclagegeaaGreatDoor
namespace Go.Proofs.YthcnhbclagegeaaGreatDoor
open Go.RowKit RelA
namespace RelA
def Lk (R:Nat→Nat) (M:Nat→Nat→Bool):Prop:=∀ i j,(R i).testBit j=true ↔ M i j=true
theorem rnewM_iff (N:Nat) (l:List (Int × Int)) (i j:Nat):rnewM N l i j=true ↔ ∃ p ∈ l,inB N p.1=true∧inB N p.2=true∧p.1=i∧p.2=j:=by
 unfold rnewM
 have key:∀ (l:List (Int × Int)) (M:Nat→Nat→Bool),l.foldl (rstep N) M i j=true ↔ M i j=true ∨ ∃ p ∈ l,inB N p.1=true∧inB N p.2=true∧p.1=i∧p.2=j:=by
  intro l
  induction l with
  | nil=>intro M; simp
  | cons p l ih=>
   intro M
   rw [List.foldl_cons,ih]
   have hstep:rstep N M p i j=true ↔ M i j=true ∨ (inB N p.1=true∧inB N p.2=true∧p.1=i∧p.2=j):=by
    unfold rstep
    cases h1:inB N p.1 <;> cases h2:inB N p.2 <;> simp only [Bool.and_false,Bool.and_true,Bool.false_eq_true,if_false,if_true,false_and,and_false,or_false,true_and]
    have g1:=of_decide_eq_true h1
    have g2:=of_decide_eq_true h2
    unfold updM
    by_cases e:i=p.1.toNat∧j=p.2.toNat
    ·rw [if_pos e]
     simp only [true_iff]
     exact .inr ⟨by omega,by omega⟩
    ·rw [if_neg e]
     constructor
     ·exact .inl
     ·rintro (h | ⟨h,g⟩)
      ·exact h
      ·exact absurd ⟨by omega,by omega⟩ e
   rw [hstep]
   constructor
   ·rintro ((h | h) | ⟨q,hq,h⟩)
    ·exact .inl h
    ·exact .inr ⟨p,by simp,h⟩
    ·exact .inr ⟨q,by simp [hq],h⟩
   ·rintro (h | ⟨q,hq,h⟩)
    ·exact .inl (.inl h)
    ·rcases List.mem_cons.1 hq with rfl | hq
     ·exact .inl (.inr h)
     ·exact .inr ⟨q,hq,h⟩
 rw [key]
 simp
theorem lk_new (N:Nat) (l:List (Int × Int)):Lk (newR N l) (rnewM N l):=fun i j=>by rw [newR_bit,rnewM_iff]
theorem wf_new (N:Nat) (l:List (Int × Int)):WFM N (rnewM N l):=by
 intro i j h
 obtain ⟨p,_,h1,h2,h3,h4⟩:=(rnewM_iff N l i j).1 h
 have g1:=of_decide_eq_true h1
 have g2:=of_decide_eq_true h2
 omega
theorem filter_cut (N:Nat) (p:Nat→Bool) (hN:N≤40) (h:∀ j,p j=true→j < N):(List.range 40).filter p=(List.range N).filter p:=by
 have e:List.range 40=List.range N ++ List.range' N (40 - N):=by
  rw [List.range_eq_range',List.range_eq_range']
  have:=List.range'_append_1 (s:=0) (m:=N) (n:=40 - N)
  rw [Nat.zero_add] at this
  rw [this]
  congr 1; omega
 rw [e,List.filter_append]
 have:(List.range' N (40 - N)).filter p=[]:=by
  rw [List.filter_eq_nil_iff]
  intro a ha hp
  have:=List.mem_range'_1.1 ha
  have:=h a hp
  omega
 rw [this,List.append_nil]
theorem pairs_eq {N:Nat} {R:Nat→Nat} {M:Nat→Nat→Bool} (hN:N≤40) (h:Lk R M) (hW:WFM N M):pairsR R=rpairs N M:=by
 have hrow:∀ i,rowPairs i (R i)=rrow M i N:=by
  intro i
  unfold rowPairs bitList rrow
  have e:(fun j=>(R i).testBit j)=fun j=>M i j:=by
   funext j; rw [Bool.eq_iff_iff]; exact h i j
  rw [e,filter_cut N _ hN fun j hj=>(hW i j hj).2]
 have hzero:∀ i,N≤i→rrow M i N=[]:=by
  intro i hi
  unfold rrow
  have:(List.range N).filter (fun j=>M i j)=[]:=by
   rw [List.filter_eq_nil_iff]
   intro a _ hp
   have:=(hW i a hp).1
   omega
  rw [this]; rfl
 have key:∀ k,pre R k=if k≤N then rpre N M k else rpre N M N:=by
  intro k
  induction k with
  | zero=>rw [if_pos (Nat.zero_le _)]; rfl
  | succ k ih=>
   rw [pre_succ,ih,hrow]
   by_cases h1:k + 1≤N
   ·rw [if_pos (by omega),if_pos h1,rpre_succ]
   ·rw [if_neg h1,hzero k (by omega),List.append_nil]
    by_cases h2:k≤N
    ·rw [if_pos h2]; congr 1; omega
    ·rw [if_neg h2]
 unfold pairsR rpairs
 rw [key]
 by_cases h1:40≤N
 ·rw [if_pos h1]; congr 1; omega
 ·rw [if_neg h1]
theorem rfull_iff (N:Nat) (F:Nat→Nat→Bool) (i j:Nat):rfull N F i j=true ↔ i < N∧j < N∧F i j=true:=by
 unfold rfull; simp [and_assoc]
theorem lk_or {n m:Nat} {R S:Nat→Nat} {M T:Nat→Nat→Bool} (h:Lk R M) (g:Lk S T) (hW:WFM n M) (gW:WFM m T):Lk (fun i=>R i ||| S i) (rfull (max n m) fun i j=>M i j || T i j):=by
 intro i j
 rw [rfull_iff,Nat.testBit_or,Bool.or_eq_true,Bool.or_eq_true,h i j,g i j]
 constructor
 ·rintro (a | a)
  ·have:=hW i j a; exact ⟨by omega,by omega,.inl a⟩
  ·have:=gW i j a; exact ⟨by omega,by omega,.inr a⟩
 ·exact fun a=>a.2.2
theorem lk_and {n m:Nat} {R S:Nat→Nat} {M T:Nat→Nat→Bool} (h:Lk R M) (g:Lk S T) (hW:WFM n M):Lk (fun i=>R i &&& S i) (rfull (max n m) fun i j=>M i j && T i j):=by
 intro i j
 rw [rfull_iff,Nat.testBit_and,Bool.and_eq_true,Bool.and_eq_true,h i j,g i j]
 constructor
 ·rintro ⟨a,b⟩
  have:=hW i j a; exact ⟨by omega,by omega,a,b⟩
 ·exact fun a=>a.2.2
theorem lk_less {n m:Nat} {R S:Nat→Nat} {M T:Nat→Nat→Bool} (h:Lk R M) (g:Lk S T) (hW:WFM n M):Lk (fun i=>R i ^^^ (R i &&& S i)) (rfull (max n m) fun i j=>M i j && !T i j):=by
 intro i j
 have e:(R i ^^^ (R i &&& S i)).testBit j=((R i).testBit j && !(S i).testBit j):=by
  rw [Nat.testBit_xor,Nat.testBit_and]
  cases (R i).testBit j <;> cases (S i).testBit j <;> rfl
 have e1:(R i).testBit j=M i j:=by rw [Bool.eq_iff_iff]; exact h i j
 have e2:(S i).testBit j=T i j:=by rw [Bool.eq_iff_iff]; exact g i j
 rw [rfull_iff]
 show (R i ^^^ (R i &&& S i)).testBit j=true ↔ _
 rw [e,e1,e2]
 constructor
 ·intro a
  have:=hW i j (Bool.and_eq_true_iff.1 a).1
  exact ⟨by omega,by omega,a⟩
 ·exact fun a=>a.2.2
theorem lk_then {n m:Nat} {R S:Nat→Nat} {M T:Nat→Nat→Bool} (h:Lk R M) (g:Lk S T) (hW:WFM n M) (gW:WFM m T) (hR:∀ i,R i < 2 ^ 40) (hS:∀ i,S i < 2 ^ 40):Lk (fun i=>U S (R i)) (thenM (max n m) M T):=by
 intro i j
 show (U S (R i)).testBit j=true ↔ _
 rw [U_bit40 S _ _ hS (hR i)]
 unfold thenM
 rw [rfull_iff,List.any_eq_true]
 constructor
 ·rintro ⟨k,a,b⟩
  have a2:=(h i k).1 a
  have b2:=(g k j).1 b
  have:=hW _ _ a2
  have:=gW _ _ b2
  exact ⟨by omega,by omega,k,List.mem_range.2 (by omega),by rw [a2,b2]; rfl⟩
 ·rintro ⟨_,_,k,_,a⟩
  have a:=Bool.and_eq_true_iff.1 a
  exact ⟨k,(h i k).2 a.1,(g k j).2 a.2⟩
theorem lk_back {n:Nat} {R:Nat→Nat} {M:Nat→Nat→Bool} (h:Lk R M) (hW:WFM n M) (hn:n≤40):Lk (backR R) (fun i j=>rfull n M j i):=by
 intro i j
 show (backR R i).testBit j=true ↔ rfull n M j i=true
 rw [back_bit,rfull_iff,h j i]
 constructor
 ·rintro ⟨_,a⟩
  have:=hW _ _ a
  exact ⟨by omega,by omega,a⟩
 ·rintro ⟨a,_,b⟩
  exact ⟨by omega,b⟩
theorem path_eq {R:Nat→Nat} {M:Nat→Nat→Bool} (h:Lk R M) (i j:Nat):Path R i j ↔ MPath M i j:=by
 have e:(fun a b=>(R a).testBit b=true)=fun a b=>M a b=true:=by
  funext a b; exact propext (h a b)
 unfold Path MPath
 rw [e]
theorem lk_plus {R:Nat→Nat} {M T:Nat→Nat→Bool} (h:Lk R M) (hT:∀ i j,T i j=true ↔ MPath M i j) (hR:∀ i,R i < 2 ^ 40):Lk (plusR R) T:=by
 intro i j
 rw [plusR_bit,hT,path_eq h]
 exact ⟨fun a=>a.2,fun a=>⟨path_lt hR ((path_eq h i j).2 a),a⟩⟩
theorem lk_maybe {n:Nat} {R:Nat→Nat} {M:Nat→Nat→Bool} (h:Lk R M):Lk (fun i=>if i < n then R i ||| 2 ^ i else R i) (fun i j=>(decide (i=j) && decide (i < n)) || M i j):=by
 intro i j
 show (if i < n then R i ||| 2 ^ i else R i).testBit j=true ↔ ((decide (i=j) && decide (i < n)) || M i j)=true
 rw [Bool.or_eq_true,Bool.and_eq_true,decide_eq_true_eq,decide_eq_true_eq]
 split
 ·rename_i hi
  rw [Nat.testBit_or,Bool.or_eq_true,Nat.testBit_two_pow,decide_eq_true_eq,h i j]
  constructor
  ·rintro (a | a)
   ·exact .inr a
   ·exact .inl ⟨a,hi⟩
  ·rintro (a | a)
   ·exact .inr a.1
   ·exact .inl a
 ·rename_i hi
  rw [h i j]
  constructor
  ·exact .inr
  ·rintro (a | a)
   ·exact absurd a.2 hi
   ·exact a
theorem wf_maybe {n:Nat} {M:Nat→Nat→Bool} (hW:WFM n M):WFM n (fun i j=>(decide (i=j) && decide (i < n)) || M i j):=by
 intro i j a
 have a:((decide (i=j) && decide (i < n)) || M i j)=true:=a
 rw [Bool.or_eq_true,Bool.and_eq_true,decide_eq_true_eq,decide_eq_true_eq] at a
 rcases a with a | a
 ·omega
 ·exact hW i j a
end RelA
end Go.Proofs.YthcnhbclagegeaaGreatDoor
namespace Go.Proofs.YthcnhbclagegeaaGreatDoor
open Go.RowKit RelA
attribute [local irreducible] RelA.rcells
namespace RelA
def PIn (w:World) (a:Option Addr) (L:List (Int × Int)) (c:Nat):Prop:=
 (a=none∧L=[]∧c=0) ∨ (∃ ad,a=some ad∧L=[]) ∨ ∃ b o,a=some ⟨b,o,none⟩∧b < w.heap.size∧∀ i,i < L.length →
  w.cell? ⟨b,o + i * 2,none⟩=some (.int .i64 (L.getD i (0,0)).1)∧w.cell? ⟨b,o + i * 2 + 1,none⟩=some (.int .i64 (L.getD i (0,0)).2)
theorem PIn.next {w w':World} {a:Option Addr} {L:List (Int × Int)} {c:Nat} (h:PIn w a L c) (hb:Below w.heap.size w w'):PIn w' a L c:=by
 rcases h with h | h | ⟨b,o,h1,h2,h3⟩
 ·exact .inl h
 ·exact .inr (.inl h)
 ·exact .inr (.inr ⟨b,o,h1,Nat.lt_of_lt_of_le h2 hb.size,fun i hi=>⟨(hb.cell (p:=⟨b,o + i * 2,none⟩) h2).trans (h3 i hi).1,(hb.cell (p:=⟨b,o + i * 2 + 1,none⟩) h2).trans (h3 i hi).2⟩⟩)
def icells (l:List (Int × Int)):List Value:=l.flatMap fun p=>[.int .i64 p.1,.int .i64 p.2]
theorem icells_get (l:List (Int × Int)) (i:Nat) (hi:i < l.length):(icells l)[i * 2]?=some (.int .i64 (l.getD i (0,0)).1)∧(icells l)[i * 2 + 1]?=some (.int .i64 (l.getD i (0,0)).2):=by
 induction l generalizing i with
 | nil=>simp at hi
 | cons p l ih=>
  cases i with
  | zero=>exact ⟨rfl,rfl⟩
  | succ i=>
   have:=ih i (by simpa using hi)
   have e1:(i + 1) * 2=i * 2 + 2:=by omega
   rw [e1]
   exact this
end RelA
theorem new_ownI (n:Int) (base:Nat) (v:Value) (L:List (Int × Int)) (w:World) (hown:w.ownsRow base 56 2 v L.length (icells L)) :
  Calls Tryz.prog 152 #[.int .i64 n,v] w fun e w'=>e=.returned (.pointer (some ⟨w.heap.size,0,none⟩))∧At w' w.heap.size (clampN n) (newR (clampN n) L)∧Below w.heap.size w w':=by
 obtain ⟨hl,⟨rfl,h0⟩ | ⟨g,cap,cur,rfl,hg,hcur,hc1,hc2,hc3,hc4⟩⟩:=hown
 ·have:L=[]:=List.length_eq_zero_iff.1 h0
  subst this
  exact new_nil n w
 ·have hget:∀ j,j < L.length * 2→w.cell? ⟨g,j,none⟩=(icells L)[j]?:=by
   intro j hj
   rw [cell_of_row w g j cur _ _ hcur,← hc4,List.getElem?_take,if_pos hj]
   simp
  exact new_some n g 0 L cap w (by omega) (Array.getElem?_eq_some_iff.1 hcur).1 (fun i hi=>by
   have hp:=icells_get L i hi
   rw [Nat.zero_add,hget _ (by omega),hget _ (by omega)]
   exact hp)
section
attribute [local go_sem ↓ high] RelA.execOp_max RelA.execOp_min
attribute [local go_sem ↓] RelA.execOp_build_ref
attribute [local go_sem] RelA.run_maxOp RelA.run_minOp RelA.run_buildRef
set_option maxRecDepth 20000 in
set_option maxHeartbeats 800000 in
theorem rnew_zero (n:Int) (a:Option Addr) (c:Nat) (w:World) :
  Calls Tryz.prog 101 #[.int .i64 n,.slice a 0 c] w fun e w'=>e=.returned (.pointer (some ⟨w.heap.size,0,none⟩))∧RAt w' w.heap.size (clampN n) (fun _ _=>false)∧Below w.heap.size w w':=by
 have hcn:=clamp_eq n
 generalize clampN n=N at *
 go_enter Tryz.func101,Tryz.ntmps101
 go_wp2_with fail
 go_loopw [6] (fun i wr=>i=.int .i64 0∧RAt wr w.heap.size N (fun _ _=>false)∧Below w.heap.size w wr) (fun i _=>0)
 case atStart=>exact ⟨rfl,(by unfold RAt; rw [← refV_nat]; exact heap_alloc_new _ _),(Below.refl _ _).alloc (Nat.le_refl _) _⟩
 case round=>
  obtain ⟨rfl,hat,hbe⟩:=hrel
  have HAT:=Lib.hid hat
  clear hat
  go_wp2_with fail
  go_ret
  exact ⟨rfl,HAT.out,hbe⟩
end
end Go.Proofs.YthcnhbclagegeaaGreatDoor
