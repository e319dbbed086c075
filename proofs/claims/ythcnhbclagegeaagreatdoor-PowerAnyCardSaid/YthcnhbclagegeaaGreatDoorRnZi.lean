/-
  One text of a symbolic evaluator over the model, shown sound once for every program: no statement is claimed here.
-/
import Derived.Test.YthcnhbclagegeaaGreatDoorRnZg
import Derived.Sort.LoopGhostIn
namespace Go.Rn
variable {ρ ρ1 ρ2:Rho} {m m':Mp} {P:Program}
variable {g fl n n' nt:Nat} {h h' h0:HT} {t t' t0:FT} {a:Act} {w w':World}
/-! loops of any number of Zha: a round is a run from a state of its own; what it ends in is a state of that kind again -/
def Dfr (base:Nat) (ds:List Deferred) (w:World):Prop:=base<=w.heap.size/\(∀ d∈ds,∃ D,base<=D/\d={ target:=.collected D,args:=#[] }/\w.heap[D]?=some (.deferred (some [])))/\ds.Nodup
theorem Marks.dfr {base:Nat} {ds:List Deferred} (k:Marks none fl base ds h m w):Dfr base ds w:=
 ⟨k.1,fun d hd=>let ⟨D,h1,h2,h3,_⟩:=k.2.1 d hd;⟨D,h1,h2,h3⟩,k.2.2.2⟩
theorem Dfr.marks {base:Nat} {ds:List Deferred} (k:Dfr base ds w) (s:Sim P ρ m g h w):Marks none fl base ds h m w:=
 ⟨k.1,fun d hd=>by
  obtain⟨D,h1,h2,h3⟩:=k.2.1 d hd
  refine⟨D,h1,h2,h3,fun b c z O Z _ hb hm=>?_⟩
  obtain⟨B,O',Z',q1,q2⟩:=s.cell b c z hb
  rw[q1] at hm
  cases hm
  rcases q2 with⟨_,C,el,fr,q3,_⟩ | ⟨_,o,q3,q4,_⟩
  ·rw[h3] at q3;cases q3
  ·rw[h3] at q3;cases q3;exact q4.elim,(fun _ h=>by cases h),k.2.2⟩
def Zlb:RV->Bool | .p _ _=>true | .i _ _=>true | .b _=>true | .np=>true | .ns=>true | .s _=>true | _=>false
def Yca (σ:Nat->Nat):RV->RV | .p b o=>.p (σ b) o | v=>v
theorem Zwp {σ:Nat->Nat} {v:RV} {u:Value} (hp:Zlb v=true) (hd:den ρ1 m' (Yca σ v) u):den ρ2 (fun b=>m' (σ b)) v u:=by
 cases v<;>first | exact hd | cases hp
theorem Yc3 {σ:Nat->Nat} {v:RV} (hp:Zlb v=true):Yca σ v≠.un:=by
 cases v<;>first | (cases hp;done) | exact fun e=>by cases e
structure Sub (ρ1 ρ2:Rho) (σ:Nat->Nat) (t:FT) (h:HT) (t0:FT) (h0:HT):Prop where
 slot:∀ i,T.get .un t0 (i+1)≠.un->Zlb (T.get .un t0 (i+1))=true/\T.get .un t (i+1)=Yca σ (T.get .un t0 (i+1))
 blk:∀ b c z,hg h0 b=.bk c z->∃ c',hg h (σ b)=.bk c' z/\((z≠Za2/\(∀ k,z<=k->cg c k=.un)/\∀ k,cg c k≠.un->Zlb (cg c k)=true/\cg c' k=Yca σ (cg c k)) ∨
  (z=Za2/\∃ t t',cg c 0=.tup t/\cg c' 0=.tup t'/\∀ C el fr,ρ1.th t' (.cells C el fr)->ρ2.th t (.cells C el fr)))
 inj:∀ b b' c z c' z',hg h0 b=.bk c z->hg h0 b'=.bk c' z'->σ b=σ b'->b=b'
 low:∀ b,b<100->σ b=b
 high:∀ b c z,hg h0 b=.bk c z->100<=σ b
theorem Sub.sim {σ:Nat->Nat} (q:Sub ρ1 ρ2 σ t h t0 h0) (s:Sim P ρ1 m 100 h w) (he:ρ2.w0=ρ1.w0):Sim P ρ2 (fun b=>m (σ b)) 100 h0 w:=by
 refine⟨fun b c z hb=>?_,fun b b' c z c' z' B O Z O' Z' hb hb' h1 h2=>?_,?_,fun b c z B O Z hg1 hb h1=>?_⟩
 ·obtain⟨c',h1,h2⟩:=q.blk b c z hb
  have hh:=q.high b c z hb
  obtain⟨B,O,Z,h3,h4⟩:=s.cell _ _ _ h1
  refine⟨B,O,Z,h3,?_⟩
  rcases h2 with⟨hz,hun,hk⟩ | ⟨hz,tg1,tg2,k1,k2,k3⟩
  ·rcases h4 with⟨_,C,el,fr,k1,k2,k3,k4,k5⟩ | ⟨q1,_⟩
   ·refine .inl ⟨hz,C,el,fr,k1,k2,fun _=>k3 hh,hun,fun k hk1=>?_⟩
    obtain⟨p1,p2⟩:=hk k hk1
    have hne:cg c' k≠.un:=by
     rw[p2];exact Yc3 p1
    obtain⟨v,e1,e2,e3⟩:=k5 k hne
    rw[p2] at e2
    exact⟨v,e1,Zwp p1 e2,e3⟩
   ·exact absurd q1 hz
  ·rcases h4 with⟨q1,_⟩ | ⟨_,o,q2,q3,q4⟩
   ·exact absurd hz q1
   ·refine .inr ⟨hz,o,q2,?_,q4⟩
    cases o with
    | cells C el fr=>
     obtain⟨tag,e1,e2⟩:=q3
     rw[k2] at e1
     cases e1
     exact⟨tg1,k1,k3 _ _ _ e2⟩
    | map es _=>obtain⟨e1,_⟩:=q3;rw[k2] at e1;cases e1
    | loop rec=>obtain⟨_,_,_,_,_,_,_,_,_,e1,_⟩:=q3;rw[k2] at e1;cases e1
    | _=>exact q3.elim
 ·obtain⟨c1,k1,_⟩:=q.blk b c z hb
  obtain⟨c2,k2,_⟩:=q.blk b' c' z' hb'
  exact q.inj b b' c z c' z' hb hb' (s.inj _ _ _ _ _ _ _ _ _ _ _ k1 k2 h1 h2)
 ·have:=s.old
  unfold Rho.Old at this ⊢
  rw[he];exact this
 ·obtain⟨c1,k1,_⟩:=q.blk b c z hb
  have:ρ2.base=ρ1.base:=by unfold Rho.base;rw[he]
  rw[this]
  exact s.hi _ _ _ _ _ _ (q.high b c z hb) k1 h1
theorem Sub.fr {σ:Nat->Nat} {tmps:Array Value} (q:Sub ρ1 ρ2 σ t h t0 h0) (F:Fr P ρ1 m nt t tmps) (hgl:P.globals.size<=100):Fr P ρ2 (fun b=>m (σ b)) nt t0 tmps:=
 ⟨F.size,F.small,fun i hi=>by
  obtain⟨p1,p2⟩:=q.slot i hi
  have hne:T.get .un t (i+1)≠.un:=by
   rw[p2];exact Yc3 p1
  have:=F.slot i hne
  rw[p2] at this
  exact Zwp p1 this,fun k hk=>by
  obtain⟨Z,hz⟩:=F.glob k hk
  exact⟨Z,by show m (σ k)=_;rw[q.low k (by omega)];exact hz⟩⟩
/-! states written down: slots,blocks that are told,rows -/
noncomputable def Yd3:List (Nat×RV)->FT
 | []=>te
 | e::l=>tst (Yd3 l) e.2 (pa 20 (e.1+1))
noncomputable def Ycc:List (Nat×RV)->HT
 | []=>he
 | e::l=>hst (Ycc l) (.bk (cst ce (.tup e.2) 0) Za2) e.1
noncomputable def Yh4 (h:HT):List (Nat×RV×Nat)->HT
 | []=>h
 | e::l=>hst (Yh4 h l) (.bk (lay e.2.1 ce 0) e.2.2) e.1
theorem Zr9 {nt:Nat}:∀ {l:List (Nat×RV)} (_:∀ e∈l,e.1<1000000) {i:Nat},T.get .un (Yd3 l) (i+1)≠.un->∃ e∈l,e.1=i/\T.get .un (Yd3 l) (i+1)=e.2
 | [],_,i,h=>absurd rfl h
 | e::l,hl,i,h=>by
  have hs:T.get .un (Yd3 (e::l)) (i+1)=if i+1=(pa 20 (e.1+1)).val then e.2 else T.get .un (Yd3 l) (i+1):=Zhl _ _ _ _ _
  have hv:(pa 20 (e.1+1)).val=e.1+1:=Znz 20 (e.1+1) (by omega) (by have:=hl e List.mem_cons_self;show e.1+1<1048576;omega)
  rw[hv] at hs
  by_cases hi:i=e.1
  ·subst hi
   rw[if_pos rfl] at hs
   exact⟨e,List.mem_cons_self,rfl,hs⟩
  ·rw[if_neg (by omega)] at hs
   rw[hs] at h
   obtain⟨e',h1,h2,h3⟩:=Zr9 (nt:=nt) (fun x hx=>hl x (List.mem_cons_of_mem _ hx)) h
   exact⟨e',List.mem_cons_of_mem _ h1,h2,by rw[hs];exact h3⟩
theorem Zm6:∀ {l:List (Nat×RV)} {b:Nat} {c:CT} {z:Nat},hg (Ycc l) b=.bk c z->∃ e∈l,e.1=b/\c=cst ce (.tup e.2) 0/\z=Za2
 | [],b,c,z,h=>by cases (show(RB.no)=.bk c z from h)
 | e::l,b,c,z,h=>by
  rcases Za6 (Ycc l) (.bk (cst ce (.tup e.2) 0) Za2) e.1 b with⟨h1,h2 | h2⟩ | ⟨_,h2⟩
  ·have h':hg (hst (Ycc l) (.bk (cst ce (.tup e.2) 0) Za2) e.1) b=.bk c z:=h
   rw[h2] at h';cases h'
   exact⟨e,List.mem_cons_self,h1.symm,rfl,rfl⟩
  ·have h':hg (hst (Ycc l) (.bk (cst ce (.tup e.2) 0) Za2) e.1) b=.bk c z:=h
   rw[h2] at h';cases h'
  ·have h':hg (hst (Ycc l) (.bk (cst ce (.tup e.2) 0) Za2) e.1) b=.bk c z:=h
   rw[h2] at h'
   obtain⟨e',q1,q2⟩:=Zm6 h'
   exact⟨e',List.mem_cons_of_mem _ q1,q2⟩
theorem Zm7 {h:HT}:∀ {l:List (Nat×RV×Nat)} {b:Nat} {c:CT} {z:Nat},hg (Yh4 h l) b=.bk c z->hg h b=.bk c z∨∃ e∈l,e.1=b/\c=lay e.2.1 ce 0/\z=e.2.2
 | [],b,c,z,hh=>.inl hh
 | e::l,b,c,z,hh=>by
  have h':hg (hst (Yh4 h l) (.bk (lay e.2.1 ce 0) e.2.2) e.1) b=.bk c z:=hh
  rcases Za6 (Yh4 h l) (.bk (lay e.2.1 ce 0) e.2.2) e.1 b with⟨h1,h2 | h2⟩ | ⟨_,h2⟩
  ·rw[h2] at h';cases h'
   exact .inr ⟨e,List.mem_cons_self,h1.symm,rfl,rfl⟩
  ·rw[h2] at h';cases h'
  ·rw[h2] at h'
   rcases Zm7 h' with q | ⟨e',q1,q2⟩
   ·exact .inl q
   ·exact .inr ⟨e',List.mem_cons_of_mem _ q1,q2⟩
def chP:List RV->RV
 | []=>.nil
 | x::l=>.cons x (chP l)
theorem Zp6:∀ (l:List RV) (c:CT) (j k:Nat),cg (lay (chP l) c j) k≠.un->(j<=k/\∃ v,l[k-j]?=some v/\cg (lay (chP l) c j) k=v)∨cg (lay (chP l) c j) k=cg c k
 | [],c,j,k,_=>.inr rfl
 | x::l,c,j,k,h=>by
  have e:lay (chP (x::l)) c j=lay (chP l) (cst c x j) (j+1):=by
   show fT (cst c x j) (fun t=>lay (chP l) t (Nat.succ j))=_
   rw[Zb4]
  rw[e] at h ⊢
  rcases Zp6 l (cst c x j) (j+1) k h with⟨h1,v,h2,h3⟩ | h1
  ·refine .inl ⟨by omega,v,?_,h3⟩
   rw[show k-j=(k-(j+1))+1 by omega]
   simpa using h2
  ·rw[h1] at h ⊢
   rcases Zn5 c x j k with⟨h2,h3 | h3⟩ | ⟨_,h3⟩
   ·exact .inl ⟨by omega,x,by simp[h2],h3⟩
   ·exact absurd h3 h
   ·exact .inr h3
theorem Zl9 (c:RV):cg (cst ce c 0) 0=c:=by
 unfold cg cst
 exact Zip _ _ _ _ (Nat.succ_le_succ (Nat.zero_le 0)) (by decide)
structure Stt where
 sl:List (Nat×RV)
 tl:List (Nat×RV×Nat×RV)
 kn:List (Nat×List RV×Nat×Nat)
noncomputable def Stt.ft (s:Stt):FT:=Yd3 s.sl
noncomputable def Stt.ht (s:Stt):HT:=Yh4 (Ycc (s.tl.map fun e=>(e.1,e.2.1))) (s.kn.map fun e=>(e.1,chP e.2.1,e.2.2.1))
def Stt.old (s:Stt):List (Nat×Nat):=s.tl.map (fun e=>(e.1,e.2.2.1))++s.kn.map fun e=>(e.1,e.2.2.2)
def lkp (l:List (Nat×Nat)) (b:Nat):Nat:=match l with | []=>if b<100 then b else b+1000000 | e::r=>if e.1=b then e.2 else lkp r b
def Stt.σ (s:Stt) (b:Nat):Nat:=lkp s.old b
def Stt.fine (s:Stt):Bool:=s.sl.all (fun e=>decide (e.1<1000000)&&Zlb e.2)&&(s.kn.all fun e=>e.2.1.all Zlb&&decide (e.2.1.length<=e.2.2.1)&&decide (e.2.2.1<Za2))&&(s.old.all fun e=>decide (100<=e.1)&&decide (100<=e.2))&&decide ((s.old.map (·.1)).Nodup)&&decide ((s.old.map (·.2)).Nodup)
noncomputable def cellsB (σ:Nat->Nat) (cs:CT):List RV->Nat->Bool
 | [],_=>true
 | x::l,k=>bf (eqV (cg cs k) (Yca σ x)) (cellsB σ cs l (Nat.succ k)) false
noncomputable def Stt.okB (s:Stt) (t:FT) (h:HT):Bool:=
 bf (s.sl.all fun e=>eqV (T.get .un t (e.1+1)) (Yca s.σ e.2)) (bf (s.tl.all fun e=>gMK false (hg h e.2.2.1) fun cs=>eqV (cg cs 0) (.tup e.2.2.2)) (s.kn.all fun e=>gK false (hg h e.2.2.2) fun cs z=>bf (Nat.beq z e.2.2.1) (cellsB s.σ cs e.2.1 0) false) false) false
theorem Zo5 {σ:Nat->Nat} {cs:CT}:∀ {l:List RV} {k:Nat},cellsB σ cs l k=true->∀ (j:Nat) (v:RV),l[j]?=some v->cg cs (k+j)=Yca σ v
 | [],_,_,j,v,hj=>by simp at hj
 | x::l,k,h,j,v,hj=>by
  obtain⟨h1,h2⟩:=Zad (show bf (eqV (cg cs k) (Yca σ x)) (cellsB σ cs l (Nat.succ k)) false=true from h) (by simp)
  cases j with
  | zero=>cases hj;exact Zj6 _ _ h1
  | succ j=>rw[show k+(j+1)=Nat.succ k+j by omega];exact Zo5 h2 j v (by simpa using hj)
theorem Yge {l:List (Nat×Nat)} {b:Nat} (h:∀ e∈l,100<=e.1) (hb:b<100):lkp l b=b:=by
 induction l with
 | nil=>exact if_pos hb
 | cons e l ih=>
  unfold lkp
  rw[if_neg (by have:=h e List.mem_cons_self;omega)]
  exact ih fun x hx=>h x (List.mem_cons_of_mem _ hx)
theorem Ygd {l:List (Nat×Nat)} {b:Nat} (h:∀ e∈l,e.1≠b) (hb:100<=b):lkp l b=b+1000000:=by
 induction l with
 | nil=>exact if_neg (by omega)
 | cons e l ih=>
  unfold lkp
  rw[if_neg (fun q=>h e List.mem_cons_self q)]
  exact ih fun x hx=>h x (List.mem_cons_of_mem _ hx)
theorem Zuz {l:List (Nat×Nat)} {e:Nat×Nat} (hn:(l.map (·.1)).Nodup) (he:e∈l):lkp l e.1=e.2:=by
 induction l with
 | nil=>cases he
 | cons x l ih=>
  rw[List.map_cons,List.nodup_cons] at hn
  unfold lkp
  rcases List.mem_cons.1 he with rfl | he
  ·rw[if_pos rfl]
  ·rw[if_neg (fun q=>hn.1 (by rw[q];exact List.mem_map.2 ⟨e,he,rfl⟩))]
   exact ih hn.2 he
theorem Ya6 {l:List (Nat×Nat)} (hn:(l.map (·.2)).Nodup) {e e':Nat×Nat} (h1:e∈l) (h2:e'∈l) (h:e.2=e'.2):e=e':=by
 induction l with
 | nil=>cases h1
 | cons x l ih=>
  rw[List.map_cons,List.nodup_cons] at hn
  rcases List.mem_cons.1 h1 with q1 | q1<;>rcases List.mem_cons.1 h2 with q2 | q2
  ·rw[q1,q2]
  ·exact absurd (List.mem_map.2 ⟨e',q2,by rw[<- h,q1]⟩) hn.1
  ·exact absurd (List.mem_map.2 ⟨e,q1,by rw[h,q2]⟩) hn.1
  ·exact ih hn.2 q1 q2
theorem Stt.sub {s:Stt} (hf:s.fine=true) (ho:s.okB t h=true) (hth:∀ e∈s.tl,∀ C el fr,ρ1.th e.2.2.2 (.cells C el fr)->ρ2.th e.2.1 (.cells C el fr)):Sub ρ1 ρ2 s.σ t h s.ft s.ht:=by
 unfold Stt.fine at hf
 simp only[Bool.and_eq_true,List.all_eq_true,decide_eq_true_eq] at hf
 obtain⟨⟨⟨⟨f1,f2⟩,f3⟩,f4⟩,f5⟩:=hf
 unfold Stt.okB at ho
 obtain⟨o1,ho⟩:=Zad ho (by simp)
 obtain⟨o2,o3⟩:=Zad ho (by simp)
 simp only[List.all_eq_true] at o1 o2 o3
 have blk:∀ b c z,hg s.ht b=.bk c z->(∃ e∈s.tl,e.1=b/\c=cst ce (.tup e.2.1) 0/\z=Za2)∨∃ e∈s.kn,e.1=b/\c=lay (chP e.2.1) ce 0/\z=e.2.2.1:=by
  intro b c z hb
  rcases Zm7 hb with q | ⟨e,q1,q2,q3,q4⟩
  ·obtain⟨e,q1,q2,q3,q4⟩:=Zm6 q
   obtain⟨x,x1,rfl⟩:=List.mem_map.1 q1
   exact .inl ⟨x,x1,q2,q3,q4⟩
  ·obtain⟨x,x1,rfl⟩:=List.mem_map.1 q1
   exact .inr ⟨x,x1,q2,q3,q4⟩
 have inT:∀ e∈s.tl,(e.1,e.2.2.1)∈s.old:=fun e he=>List.mem_append.2 (.inl (List.mem_map.2 ⟨e,he,rfl⟩))
 have inK:∀ e∈s.kn,(e.1,e.2.2.2)∈s.old:=fun e he=>List.mem_append.2 (.inr (List.mem_map.2 ⟨e,he,rfl⟩))
 have σT:∀ e∈s.tl,s.σ e.1=e.2.2.1:=fun e he=>Zuz (e:=(e.1,e.2.2.1)) f4 (inT e he)
 have σK:∀ e∈s.kn,s.σ e.1=e.2.2.2:=fun e he=>Zuz (e:=(e.1,e.2.2.2)) f4 (inK e he)
 have one:∀ b c z,hg s.ht b=.bk c z->∃ e∈s.old,e.1=b/\s.σ b=e.2:=by
  intro b c z hb
  rcases blk b c z hb with⟨e,q1,rfl,_⟩ | ⟨e,q1,rfl,_⟩
  ·exact⟨_,inT e q1,rfl,σT e q1⟩
  ·exact⟨_,inK e q1,rfl,σK e q1⟩
 refine⟨fun i hi=>?_,fun b c z hb=>?_,fun b b' c z c' z' hb hb' h1=>?_,fun b hb=>Yge (fun e he=>(f3 e he).1) hb,fun b c z hb=>?_⟩
 ·obtain⟨e,h1,rfl,h3⟩:=Zr9 (nt:=0) (fun e he=>(f1 e he).1) hi
  have h3':T.get .un s.ft (e.1+1)=e.2:=h3
  rw[h3']
  exact⟨(f1 e h1).2,Zj6 _ _ (o1 e h1)⟩
 ·rcases blk b c z hb with⟨e,q1,rfl,rfl,rfl⟩ | ⟨e,q1,rfl,rfl,rfl⟩
  ·rw[σT e q1]
   obtain⟨cs,h1,h2⟩:=Zfg (o2 e q1) (by simp)
   refine⟨cs,h1,.inr ⟨rfl,e.2.1,e.2.2.2,Zl9 _,Zj6 _ _ h2,hth e q1⟩⟩
  ·rw[σK e q1]
   obtain⟨cs,z,h1,h2⟩:=Zg5 (o3 e q1) (by simp)
   obtain⟨h3,h4⟩:=Zad h2 (by simp)
   obtain rfl:=Zak h3
   obtain⟨⟨g1,g2⟩,g3⟩:=f2 e q1
   refine⟨cs,h1,.inl ⟨by omega,fun k hk=>?_,fun k hk=>?_⟩⟩
   ·rcases Classical.em (cg (lay (chP e.2.1) ce 0) k=.un) with p | p
    ·exact p
    ·rcases Zp6 e.2.1 ce 0 k p with⟨_,v,h5,_⟩ | h5
     ·have:=(List.getElem?_eq_some_iff.1 h5).1;omega
     ·rw[h5] at p;exact absurd rfl p
   ·rcases Zp6 e.2.1 ce 0 k hk with⟨_,v,h5,h6⟩ | h5
    ·rw[h6]
     rw[Nat.sub_zero] at h5
     have:=Zo5 h4 k v h5
     rw[Nat.zero_add] at this
     exact⟨g1 v (List.mem_of_getElem? h5),this⟩
    ·rw[h5] at hk;exact absurd rfl hk
 ·obtain⟨e,q1,rfl,q3⟩:=one b c z hb
  obtain⟨e',p1,rfl,p3⟩:=one b' c' z' hb'
  rw[q3,p3] at h1
  rw[Ya6 f5 q1 p1 h1]
 ·obtain⟨e,q1,rfl,q3⟩:=one b c z hb
  rw[q3];exact(f3 e q1).2
end Go.Rn
namespace Go.Rn
variable {ρ ρ1 ρ2:Rho} {m m' m1:Mp} {P:Program}
variable {g fl n n' n1 nt base:Nat} {h h' h0 h1:HT} {t t' t0 t1:FT} {a:Act} {w w' ws:World} {v:RV}
structure Since (ws:World) (fl:Nat) (h:HT) (m:Mp) (w:World):Prop where
 old:Old ws w
 own:∀ b c z B O Z,fl<=b->hg h b=.bk c z->m b=some (B,O,Z)->ws.heap.size<=B
theorem Since.next (k : Since ws fl h m w) (T : Tr P ρ g fl h n m w h' n' m' w') : Since ws fl h' m' w' :=
  ⟨⟨T.keep.os.trans k.old.os, T.keep.tape.trans k.old.tape, T.keep.output.trans k.old.output, Nat.le_trans k.old.size T.keep.size, fun j hj => (T.keep.block j (Nat.lt_of_lt_of_le hj k.old.size) (fun b c z O Z h1 h2 h3 => by have := k.own b c z j O Z h1 h2 h3;omega)).trans (k.old.block j hj)⟩,
   fun b c z B O Z h1 h2 h3 => by
    rcases T.orig b c z B O Z h1 h2 h3 with q | ⟨b0, c0, z0, O0, Z0, q1, q2, q3⟩
    . exact Nat.le_trans k.old.size q
    . exact k.own b0 c0 z0 B O0 Z0 q1 q2 q3⟩
theorem Ybq (T:Ext n n' m m') (hn:n<=n') (h:∀ b,n<=b->m b=none):∀ b,n'<=b->m' b=none:=fun b hb=>by
 rw[T b (.inr hb)];exact h b (Nat.le_trans hn hb)
structure Here (P:Program) (ρ:Rho) (nt fl base:Nat) (ws:World) (t:FT) (h:HT) (n:Nat) (m:Mp) (a:Act) (w:World):Prop where
 fr:Fr P ρ m nt t a.tmps
 sim:Sim P ρ m 100 h w
 free:∀ b,n<=b->m b=none
 dfr:Dfr base a.defers w
 since:Since ws fl h m w
theorem Here.piece {A:Bd} {W:(Exit->Act->World->Prop)->Act->World->Prop} (H:Here P ρ nt fl base ws t h n m a w) (hA:Zpg none P ρ 100 fl nt A W) {e:Exit} (hr:Zdb (A t h n) e t' h' n') (hfl:fl<=n) {Q:Exit->Act->World->Prop}
  (K:∀ a' w' m',Here P ρ nt fl base ws t' h' n' m' a' w'->Q e a' w'):W Q a w:=by
 obtain⟨ab,k⟩:=hA t h n e t' h' n' hr hfl
 refine k a m w H.fr H.sim (fun b hb _=>H.free b hb) base (H.dfr.marks H.sim) Q fun a' w' m' d F T=>K a' w' m' ⟨F,T.sim,Ybq T.ext ab.le H.free,d.dfr,H.since.next T⟩
theorem Here.seq {A:Bd} {x y:Code} (H:Here P ρ nt fl base ws t h n m a w) (hA:Zpg none P ρ 100 fl nt A (Wp none P x)) (hr:A t h n=.nx t' h' n') (hfl:fl<=n) {Q:Exit->Act->World->Prop}
  (K:∀ a' w' m',Here P ρ nt fl base ws t' h' n' m' a' w'->y.wpIn (WF none) 0 P Q a' w'):(Code.seq x y).wpIn (WF none) 0 P Q a w:=
 wpIn_seq (H.piece hA (e:=.normal) (by rw[hr];exact brIs_nx.2 ⟨rfl,rfl,rfl,rfl⟩) hfl K)
theorem Here.as {s:Stt} {fl2 n2:Nat} (H:Here P ρ1 nt fl base ws t h n m a w) (hgl:P.globals.size<=100) (hn:n<=1000000) (he:ρ2.w0=ρ1.w0) (hf:s.fine=true) (ho:s.okB t h=true) (hth:∀ e∈s.tl,∀ C el fr,ρ1.th e.2.2.2 (.cells C el fr)->ρ2.th e.2.1 (.cells C el fr))
  (hown:(s.old.all fun e=>decide (fl2<=e.1->fl<=e.2)&&decide (e.1<n2))=true) (hn2:100<=n2):Here P ρ2 nt fl2 base ws s.ft s.ht n2 (fun b=>m (s.σ b)) a w:=by
 have q:=Stt.sub (ρ1:=ρ1) (ρ2:=ρ2) hf ho hth
 simp only[List.all_eq_true,Bool.and_eq_true,decide_eq_true_eq] at hown
 have hf2:=hf
 unfold Stt.fine at hf2
 simp only[Bool.and_eq_true,List.all_eq_true,decide_eq_true_eq] at hf2
 obtain⟨⟨⟨_,f3⟩,f4⟩,f5⟩:=hf2
 have dom:∀ b c z,hg s.ht b=.bk c z->∃ e∈s.old,e.1=b:=by
  intro b c z hb
  rcases Zm7 hb with q | ⟨e,q1,q2,_⟩
  ·obtain⟨e,q1,q2,_⟩:=Zm6 q
   obtain⟨x,x1,rfl⟩:=List.mem_map.1 q1
   exact⟨(x.1,x.2.2.1),List.mem_append.2 (.inl (List.mem_map.2 ⟨x,x1,rfl⟩)),q2⟩
  ·obtain⟨x,x1,rfl⟩:=List.mem_map.1 q1
   exact⟨(x.1,x.2.2.2),List.mem_append.2 (.inr (List.mem_map.2 ⟨x,x1,rfl⟩)),q2⟩
 refine⟨q.fr H.fr hgl,q.sim H.sim he,fun b hb=>?_,H.dfr,H.since.old,fun b c z B O Z h1 h2 h3=>?_⟩
 ·have:s.σ b=b+1000000:=Ygd (fun e he q=>by have:=(hown e he).2;omega) (by omega)
  show m (s.σ b)=none
  rw[this];exact H.free _ (by omega)
 ·obtain⟨c',k1,_⟩:=q.blk b c z h2
  obtain⟨e,e1,rfl⟩:=dom b c z h2
  have hσ:s.σ e.1=e.2:=Zuz f4 e1
  have h3':m (s.σ e.1)=some (B,O,Z):=h3
  rw[hσ] at h3' k1
  exact H.since.own e.2 c' z B O Z ((hown e e1).1 h1) k1 h3'
structure Rnd {ι : Type} (R : ι -> Rho) (S : ι -> Stt) (flS nS : ι -> Nat) (μ : ι -> Nat) (A : ι -> Bd) (P : Program) (nt base : Nat) (ws : World) (Q : Exit -> Act -> World -> Prop) (i : ι) : Prop where
  ends : ∃ e t' h' n', Zdb (A i (S i).ft (S i).ht (nS i)) e t' h' n' /\ n' <= 1000000 /\
    ((e = .normal /\ ∃ j, μ j<μ i /\ (S j).fine = true /\ (S j).okB t' h' = true /\ (∀ x∈(S j).tl, ∀ C el fr, (R i).th x.2.2.2 (.cells C el fr) -> (R j).th x.2.1 (.cells C el fr)) /\ ((S j).old.all fun x => decide (flS j <= x.1 -> flS i <= x.2)&&decide (x.1<nS j)) = true) ∨
     (e≠.normal /\ ∀ a' w' m', Here P (R i) nt (flS i) base ws t' h' n' m' a' w' -> Q e a' w'))
theorem Zom {x:Code} {ι:Type} {R:ι->Rho} {S:ι->Stt} {flS nS μ:ι->Nat} {A:ι->Bd} {Q:Exit->Act->World->Prop} (hgl:P.globals.size<=100) (hw0:∀ i j,(R i).w0=(R j).w0) (hA:∀ i,Zpg none P (R i) 100 (flS i) nt (A i) (Wp none P x))
  (hn:∀ i,flS i<=nS i/\100<=nS i) (round:∀ i,Rnd R S flS nS μ A P nt base ws Q i) {i0:ι} (H:Here P (R i0) nt (flS i0) base ws (S i0).ft (S i0).ht (nS i0) m a w):(Code.loop x).wpIn (WF none) 0 P Q a w:=by
 refine wpIn_loop_ghost (fun k a w=>∃ i m,μ i=k/\Here P (R i) nt (flS i) base ws (S i).ft (S i).ht (nS i) m a w) (μ i0) ⟨i0,m,rfl,H⟩ ?_
 rintro k a w ⟨i,m,rfl,H⟩
 obtain⟨e,t',h',n',hr,hn',hor⟩:=(round i).ends
 refine H.piece (hA i) hr (hn i).1 fun a' w' m' H'=>?_
 rcases hor with⟨rfl,j,hlt,h1,h2,h3,h4⟩ | ⟨hne,hq⟩
 ·exact⟨μ j,hlt,j,_,rfl,H'.as hgl hn' (hw0 j i) h1 h2 h3 h4 (hn j).2⟩
 ·have hb:=hq a' w' m' H'
  cases e<;>first | exact absurd rfl hne | exact hb
/-! a function -/
theorem Zzd {b0:Nat} {w1 w2:World} (s:Sim P ρ m g h w1) (k:ShutD b0 w1 w2) (lo:ρ.base<=b0):Sim P ρ m g h w2:=by
 refine⟨fun b c z hb=>?_,s.inj,s.old.move k.os k.tape k.output (by rw[k.size];exact Nat.le_refl _) (fun j hj=>k.old j (Nat.lt_of_lt_of_le hj lo)),s.hi⟩
 obtain⟨B,O,Z,q1,q2⟩:=s.cell b c z hb
 refine⟨B,O,Z,q1,q2.move ?_ (Le.refl _)⟩
 rcases q2 with⟨_,C,el,fr,q3,_⟩ | ⟨_,o,q3,q4⟩
 ·rw[q3];exact k.same _ _ q3 (fun x hx=>by cases hx)
 ·rw[q3];exact k.same _ _ q3 (fun x hx=>by rw[hx] at q4;exact q4.1.elim)
theorem Ya2 {w1 w2:World} (o:Old ws w1) (k:ShutD ws.heap.size w1 w2):Old ws w2:=
 ⟨k.os.trans o.os,k.tape.trans o.tape,k.output.trans o.output,by rw[k.size];exact o.size,fun j hj=>(k.old j hj).trans (o.block j hj)⟩
def Yvo (P:Program) (fn:Func) (ws:World) (R:Ending->World->Prop) (a1:Act) (w1:World):Prop:=Dfr ws.heap.size a1.defers w1/\∀ w2,ShutD ws.heap.size w1 w2->∃ v,(results fn a1.tmps).run P w2=.ok v w2/\R (.returned v) w2
theorem Here.left {fn:Func} {rs:List RS} {R:Ending->World->Prop} (H:Here P ρ fn.ntmps fl ws.heap.size ws t h n m a w) (hrs:fn.results.toList.mapM (Zen P fn.ntmps)=some rs) (hret:ret t h n rs=.ok v h' n') (lo:ρ.base<=ws.heap.size)
  (hR:∀ u w2,den ρ m v u->Sim P ρ m 100 h w2->Old ws w2->(∀ b c z B O Z,fl<=b->hg h b=.bk c z->m b=some (B,O,Z)->ws.heap.size<=B)->R (.returned u) w2):Yvo P fn ws R a w:=
 ⟨H.dfr,fun w2 k=>by
  have s2:=Zzd H.sim k lo
  obtain⟨_,_,u,hu1,hu2⟩:=Yc2 H.fr s2 hrs hret
  exact⟨u,hu1,hR u w2 hu2 s2 (Ya2 H.since.old k) H.since.own⟩⟩
theorem Zlv {f:Nat} {fn:Func} {bd:Code} (hfn:P.funcs[f]?=some fn) (hbd:fn.body=some bd) {args:Array Value} {R:Ending->World->Prop}
  (hw:∀ (Q:Exit->Act->World->Prop) (a0:Act),(∀ e a1 w1,(e=.normal∨e=.ret)->Yvo P fn ws R a1 w1->Q e a1 w1)->a0.defers=[]->a0.tmps=args++Array.replicate (fn.ntmps-args.size) undef->bd.wpIn (WF none) 0 P Q a0 ws):Calls P f args ws R:=by
 refine(callsIn_wide (n:=0)).1 (callsIn_of_wp_marks (F:=WF none) hfn hbd trivial ?_)
 refine hw _ _ (fun e a1 w1 he hl=>?_) rfl rfl
 have:=Zkj a1.defers w1 hl.1.2.2 hl.1.2.1 hl.2
 rcases he with rfl | rfl<;>exact this
theorem Here.start {fn:Func} (hnt:fn.ntmps<1000000) (hgl:P.globals.size<=100) {c:RV} {q:Nat} {vs:List Value} (hq:Zba c=some q) (hd:∀ m,Zbg ρ m c vs) (ho:ρ.Old ws) {a0:Act} (h1:a0.defers=[]) (h2:a0.tmps=vs.toArray++Array.replicate (fn.ntmps-vs.toArray.size) undef) :
  Here P ρ fn.ntmps 100 ws.heap.size ws (lay c te 0) he 100 (fun b=>if b<P.globals.size then some (b,0,0) else none) a0 ws:=by
 refine⟨⟨by rw[h2];simp;omega,hnt,fun i hi=>?_,fun k hk=>⟨0,if_pos hk⟩⟩,⟨fun b c z hb=>(by rw[Zep] at hb;cases hb),fun b b' c z c' z' B O Z O' Z' hb=>(by rw[Zep] at hb;cases hb),ho,fun b c z B O Z _ hb=>(by rw[Zep] at hb;cases hb)⟩,fun b hb=>if_neg (by omega),⟨Nat.le_refl _,(by rw[h1];intro d hd;cases hd),(by rw[h1];exact .nil)⟩,⟨⟨rfl,rfl,rfl,Nat.le_refl _,fun _ _=>rfl⟩,fun b c z B O Z _ hb=>(by rw[Zep] at hb;cases hb)⟩⟩
 rw[h2]
 rcases Zj4 q vs te 0 hq (hd (fun b=>if b<P.globals.size then some (b,0,0) else none)) i hi with⟨_,_,u,h3,h4⟩ | ⟨_,h3⟩
 ·have hlt:i<vs.length:=by
   rcases Nat.lt_or_ge i vs.length with p | p
   ·exact p
   ·rw[Nat.sub_zero,List.getElem?_eq_none p] at h3;cases h3
  rw[Nat.sub_zero] at h3
  have:(vs.toArray++Array.replicate (fn.ntmps-vs.toArray.size) undef).getD i undef=u:=by
   rw[Array.getD_eq_getD_getElem?,Array.getElem?_append_left (by simpa using hlt)]
   simp[h3]
  rw[this];exact h4
 ·exact absurd h3 hi
/-! how a run has ended -/
def tB:BR->FT | .nx t _ _=>t | .ex _ t _ _=>t | .rt t _ _=>t | .bad _=>te
def hB:BR->HT | .nx _ h _=>h | .ex _ _ h _=>h | .rt _ h _=>h | .bad _=>he
def nB:BR->Nat | .nx _ _ n=>n | .ex _ _ _ n=>n | .rt _ _ n=>n | .bad _=>0
def Zkt:BR->Bool | .nx _ _ _=>true | _=>false
def Yo0 (id:Nat):BR->Bool | .ex j _ _ _=>Nat.beq j id | _=>false
def Ynp:BR->Bool | .rt _ _ _=>true | _=>false
theorem Zsw {b:BR} (h:Zkt b=true):b=.nx (tB b) (hB b) (nB b):=by cases b<;>first | rfl | cases h
theorem Yru {id:Nat} {b:BR} (h:Yo0 id b=true):b=.ex id (tB b) (hB b) (nB b):=by
 cases b<;>first | (cases h;done) | skip
 rw[show _=id from Zak h];rfl
theorem Ypn {b:BR} (h:Ynp b=true):b=.rt (tB b) (hB b) (nB b):=by cases b<;>first | rfl | cases h
theorem Ziv {b:BR} (h:Zkt b=true):Zdb b .normal (tB b) (hB b) (nB b):=by rw[Zsw h];exact brIs_nx.2 ⟨rfl,rfl,rfl,rfl⟩
theorem Ztt {id:Nat} {b:BR} (h:Yo0 id b=true):Zdb b (.exit id) (tB b) (hB b) (nB b):=by rw[Yru h];exact brIs_ex.2 ⟨rfl,rfl,rfl,rfl⟩
theorem Zlw {b:BR} (h:Ynp b=true):Zdb b .ret (tB b) (hB b) (nB b):=by rw[Ypn h];exact brIs_rt.2 ⟨rfl,rfl,rfl,rfl⟩
theorem Zc1 {b:BR} {F:Bd} (h:Zkt b=true) (h2:Zkt (andThen b F)=true):F (tB b) (hB b) (nB b)=.nx (tB (andThen b F)) (hB (andThen b F)) (nB (andThen b F)):=by
 have e:=Zsw h
 have e2:andThen b F=F (tB b) (hB b) (nB b):=by rw[e];rfl
 rw[<- e2];exact Zsw h2
/-! code in pieces -/
def cdL:Code->Code | .seq a _=>a | c=>c
def cdR:Code->Code | .seq _ b=>b | c=>c
def cdI:Code->Code | .scope a=>a | .block _ a=>a | .loop a=>a | c=>c
def rkL:RC->RC | .sq a _=>a | c=>c
def rkR:RC->RC | .sq _ b=>b | c=>c
def rkI:RC->RC | .bl _ a=>a | .lp a=>a | c=>c
def rkF:RF->RC | .f _ b _=>b | _=>.sk
theorem Zfv {ys:Ys} (hy:YsOk ρ ys) {fs:Nat->Option RF} (hfs:∀ f r,fs f=some r->Zas P f=some r) {orc:Nat->RV->Option RV} (ho:Zpo P ρ orc) {kc:Kc} (hk:Yhu P ρ kc) {deep f:Nat} (hnt:nt<1000000) (hgf:100<=fl) (c:Code) {rc:RC} (hx:Zbf c=[]) (hc:Zb9 P nt f c 0=rc) :
  Zpg none P ρ 100 fl nt (code ys (Zcc ys fs orc kc deep) fl rc) (Wp none P c):=by
 rw[<- hc]
 have hcl:ClOk P ρ 100 (Zcc ys fs orc kc deep):=Zfy hy fs hfs ho hk deep
 exact Zce hnt hy hcl hgf (Yj6 hy hcl hgf) c 0 (fun j x hj=>by rw[hx] at hj;cases hj)
end Go.Rn
