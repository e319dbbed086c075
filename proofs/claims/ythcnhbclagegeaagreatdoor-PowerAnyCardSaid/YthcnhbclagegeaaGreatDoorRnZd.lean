/-
  One text of a symbolic evaluator over the model, shown sound once for every program: no statement is claimed here.
-/
import Derived.Test.YthcnhbclagegeaaGreatDoorRnZa
import Derived.Test.YthcnhbclagegeaaGreatDoorRnV
import Derived.Lib.Join
import Derived.Below
namespace Go.Rn
variable {ρ:Rho} {P:Program}
variable {g fl nt:Nat} {ys:Ys} {cl:Cl'}
def lst (listed:Array Bool):Nat->Bool:=fun z=>listed.getD z false
theorem Ygc {listed:Array Bool} {i:Nat} (h:i<listed.size):lst (listed.setIfInBounds i true)=Zi7 (lst listed) i:=by
 funext z
 unfold lst Zi7
 by_cases hz:z=i
 ·subst hz;simp[h]
 ·rw[if_neg hz,getD_set_ne false (fun e=>hz e.symm)]
theorem Zfq:∀ (l:List Bool) (i:Nat),l[i]?=some false->(l.set i true).count false+1=l.count false
 | [],_,h=>by simp at h
 | x::l,0,h=>by
  have:x=false:=by simpa using h
  subst this
  simp
 | x::l,i+1,h=>by
  have:=Zfq l i (by simpa using h)
  cases x<;>simp<;>omega
section
variable {os:Array Oper} {l:List RQ} {V:Nat->FT} {H:Nat->HT} {N:Nat->Nat} {R:Nat->RV} {csF:List CK} {hsF:List HT} {bf:List Nat}
variable (D:Dw P fl nt ys cl os l V H N R csF hsF bf) (hy:YsOk ρ ys) (hcl:ClOk P ρ g cl) (hgf:g<=fl) (hf:fl<=N 0)
variable {a0:Act} {m0:Mp} {w0:World} (s0:Sim P ρ m0 g (H 0) w0) (f0:Fresh (N 0) (N l.length) m0)
include D
theorem Dw.last {S:Nat->Bool} {j:Nat} {Hc:HT} {m:Mp} {a:Act} {w:World} (I:Inv P ρ g fl nt os l V H N R a0 m0 w0 S j Hc m a w) (hS:∀ i,i<l.length->S i=true) :
  a.defers=a0.defers/\Fr P ρ m nt (V l.length) a.tmps/\Tr P ρ g fl (H 0) (N 0) m0 w0 (H l.length) (N l.length) m w:=by
 have hE:Zcb l l.length=j:=by
  rcases Nat.lt_or_ge j (Zcb l l.length) with p | p
  ·obtain⟨e,q,h1,h2,h3,h4⟩:=Zgu (l:=l) (j:=j) l.length (Nat.le_refl _) p
   have:=(I.ej e q h2 h3).1 (hS e h1)
   omega
  ·have:=I.je;omega
 refine⟨I.defers,?_,I.tr.narrow fun b c z hb=>I.cov D (Nat.le_refl _) hE (fun k' q hk _ _ _ _ _=>hS k' hk) l.length (Nat.le_refl _) (by omega) c z hb⟩
 have:=I.fr
 rwa [D.ts_all l.length (Nat.le_refl _) hS] at this
theorem Dw.ready_all {listed:Array Bool} (hsz:listed.size=l.length) (hr:Region.ready .any os listed=[]):∀ n,∀ i,i<n->i<l.length->lst listed i=true:=by
 intro n
 induction n with
 | zero=>intro i h;omega
 | succ n ih=>
  intro i h1 h2
  cases hi:lst listed i with
  | true=>rfl
  | false=>
   have ho:=Array.getElem?_eq_getElem (show i<os.size by rw[<- D.len];exact h2)
   have:i∈Region.ready .any os listed:=by
    rw[mem_ready]
    refine⟨?_,_,ho,fun e he hb=>?_⟩
    ·unfold lst at hi
     have hlt:i<listed.size:=by omega
     simp[hlt] at hi ⊢
     exact hi
    ·have:=Zsp os.toList 0 i _ D.back (by rw[<- ho];simp) e he hb
     exact ih e.on (by omega) (by omega)
   rw[hr] at this
   cases this
include hy hcl hgf hf s0 f0
theorem Dw.any {r:Option Nat} {Q:Exit->Act->World->Prop} (hQ:∀ a' w' m',a'.defers=a0.defers->Fr P ρ m' nt (V l.length) a'.tmps->Tr P ρ g fl (H 0) (N 0) m0 w0 (H l.length) (N l.length) m' w'->Q .normal a' w') :
  ∀ (fuel:Nat) (listed:Array Bool) (j:Nat) (Hc:HT) (m:Mp) (a:Act) (w:World),Inv P ρ g fl nt os l V H N R a0 m0 w0 (lst listed) j Hc m a w->listed.size=l.length->listed.toList.count false=fuel->wpAnyIn (WF r) 0 P .any os Q fuel listed a w
 | 0,listed,j,Hc,m,a,w,I,hsz,hct=>by
  have hall:∀ i,i<l.length->lst listed i=true:=fun i hi=>by
   have hlt:i<listed.size:=by omega
   unfold lst
   have h1:=List.count_eq_zero.1 hct
   have h2:listed[i]∈listed.toList:=by simp
   cases hb:listed[i] with
   | true=>simp[hlt,hb]
   | false=>rw[hb] at h2;exact absurd h2 h1
  obtain⟨d,F,T⟩:=D.last I hall
  refine⟨?_,hQ a w m d F T⟩
  rw[List.eq_nil_iff_forall_not_mem]
  intro i hi
  rw[mem_ready] at hi
  obtain⟨h1,o,ho,_⟩:=hi
  have hlt:i<l.length:=by rw[D.len];exact(Array.getElem?_eq_some_iff.1 ho).1
  have h2:=hall i hlt
  unfold lst at h2
  have hlt2:i<listed.size:=by omega
  simp[hlt2] at h1 h2
  rw[h1] at h2;cases h2
 | fuel+1,listed,j,Hc,m,a,w,I,hsz,hct=>by
  refine⟨fun hr=>?_,fun i hi=>?_⟩
  ·obtain⟨d,F,T⟩:=D.last I (fun i hi=>D.ready_all hsz hr (i+1) i (by omega) hi)
   exact hQ a w m d F T
  ·rw[mem_ready] at hi
   obtain⟨h1,o,ho,hup⟩:=hi
   have hlt:i<listed.size:=by rw[hsz,D.len];exact(Array.getElem?_eq_some_iff.1 ho).1
   have h0:listed[i]=false:=by simpa [hlt] using h1
   refine D.next hy hcl hgf hf s0 f0 I ho (by unfold lst;simp[hlt,h0]) (fun o' ho' e he hb=>?_) fun j' Hc' m' a' w' I'=>?_
   ·have:o'=o:=by
     have h2:os.toList[i]?=some o:=by simpa using ho
     rw[h2] at ho';cases ho';rfl
    subst this
    exact hup e he hb
   ·refine Dw.any hQ fuel _ j' Hc' m' a' w' (by rw[Ygc hlt];exact I') (by simpa using hsz) ?_
    have:=Zfq listed.toList i (by simp[hlt,h0])
    rw[Array.toList_setIfInBounds]
    omega
end
theorem Zvh {α β:Type}:∀ (a:List α) (b:List β) (i:Nat) (x:α),(a.zip b).length=a.length->a[i]?=some x->∃ y,(a.zip b)[i]?=some (x,y)
 | [],_,_,_,_,h=>by simp at h
 | x::a,[],_,_,h,_=>by simp at h
 | x::a,y::b,0,z,_,h=>⟨y,by simpa using h⟩
 | x::a,y::b,i+1,z,hl,h=>by
  obtain⟨q,h1⟩:=Zvh a b i z (by simpa using hl) (by simpa using h)
  exact⟨q,by simpa using h1⟩
theorem Zts (P:Program) (nt:Nat) (os:Array Oper):Zbp P nt os=[.q .no .no .nm Zh8]∨∃ ks:List K3,Zbp P nt os=(os.toList.zip ks).map (fun ok=>Zdi P nt os ok.1 ok.2) /\
  ((os.toList.zip ks).map (fun ok=>Zdi P nt os ok.1 ok.2)).length=os.size/\Zge os.toList 0=true/\Zgb ((os.toList.zip ks).map (fun ok=>Zdi P nt os ok.1 ok.2)) 0=true /\
  Ze0 (Zl6 ((os.toList.zip ks).map (fun ok=>Zdi P nt os ok.1 ok.2)) (Region.before os).toList 0 0)=true/\P.follows .mixedOrders=true:=by
 have e:Zbp P nt os=match Zl4 (Region.before os).toList (Zcf .eff (os.toList.map fun o=>cls ((Zaz P nt o.op).getD Zh8)) 0) (Zcf .alloc (os.toList.map fun o=>cls ((Zaz P nt o.op).getD Zh8)) 0) (os.toList.map fun o=>cls ((Zaz P nt o.op).getD Zh8)) 0 with
  | some ks=>if ((os.toList.zip ks).map (fun ok=>Zdi P nt os ok.1 ok.2)).length=os.size/\Zge os.toList 0=true/\Zgb ((os.toList.zip ks).map (fun ok=>Zdi P nt os ok.1 ok.2)) 0=true/\Ze0 (Zl6 ((os.toList.zip ks).map (fun ok=>Zdi P nt os ok.1 ok.2)) (Region.before os).toList 0 0)=true/\P.follows .mixedOrders=true then (os.toList.zip ks).map (fun ok=>Zdi P nt os ok.1 ok.2) else [.q .no .no .nm Zh8]
  | none=>[.q .no .no .nm Zh8]:=rfl
 rw[e]
 cases Zl4 (Region.before os).toList (Zcf .eff (os.toList.map fun o=>cls ((Zaz P nt o.op).getD Zh8)) 0) (Zcf .alloc (os.toList.map fun o=>cls ((Zaz P nt o.op).getD Zh8)) 0) (os.toList.map fun o=>cls ((Zaz P nt o.op).getD Zh8)) 0 with
 | none=>exact .inl rfl
 | some ks=>
  by_cases hc:((os.toList.zip ks).map (fun ok=>Zdi P nt os ok.1 ok.2)).length=os.size/\Zge os.toList 0=true/\Zgb ((os.toList.zip ks).map (fun ok=>Zdi P nt os ok.1 ok.2)) 0=true/\Ze0 (Zl6 ((os.toList.zip ks).map (fun ok=>Zdi P nt os ok.1 ok.2)) (Region.before os).toList 0 0)=true/\P.follows .mixedOrders=true
  ·exact .inr ⟨ks,if_pos hc,hc⟩
  ·exact .inl (if_neg hc)
/-! ### a region's operations in another order -/
section
variable {os:Array Oper} {p:List Nat}
structure IsPerm (n:Nat) (p:List Nat):Prop where
 len:p.length=n
 back:∀ i,i<n->p[p.idxOf i]?=some i
 lt:∀ k i,p[k]?=some i->i<n/\p.idxOf i=k
theorem Zxg {n:Nat} (h:Zq0 n p=true):IsPerm n p:=by
 unfold Zq0 at h
 simp only[Bool.and_eq_true,List.all_eq_true,List.mem_range] at h
 obtain⟨⟨h1,h2⟩,h3⟩:=h
 have hl:p.length=n:=Zak h1
 refine⟨hl,fun i hi=>?_,fun k i hk=>?_⟩
 ·have:=Zak (h2 i hi)
  rw[List.getD_eq_getElem?_getD] at this
  cases hq:p[p.idxOf i]? with
  | none=>rw[hq] at this;simp at this;omega
  | some j=>rw[hq] at this;simp at this;rw[this]
 ·have hlt:k<n:=by rw[<- hl];exact(List.getElem?_eq_some_iff.1 hk).1
  have:=h3 k hlt
  rw[List.getD_eq_getElem?_getD,hk,Option.getD_some] at this
  exact⟨by have:=Zam this.2;omega,Zak this.1⟩
variable (hp:IsPerm os.size p)
include hp
theorem IsPerm.out {i:Nat} (h:os.size<=i):p.idxOf i=os.size:=by
 rw[<- hp.len]
 refine List.idxOf_eq_length fun hm=>?_
 obtain⟨k,hk⟩:=List.mem_iff_getElem?.1 hm
 have:=(hp.lt k i hk).1
 omega
theorem IsPerm.inn {i:Nat} (h:i<os.size):p.idxOf i<os.size:=by
 have:=hp.back i h
 rw[<- hp.len]
 exact(List.getElem?_eq_some_iff.1 this).1
theorem Zoj:(Zcv os p).size=os.size:=by unfold Zcv;simp[hp.len]
theorem Zm3 {i:Nat} {o:Oper} (h:os[i]?=some o):(Zcv os p)[p.idxOf i]?=some (Yh1 p o):=by
 have hi:i<os.size:=(Array.getElem?_eq_some_iff.1 h).1
 have e:os[i]! = o:=by rw[getElem!_def,h]
 unfold Zcv
 simp[hp.back i hi,e]
theorem Yay {k:Nat} {o':Oper} (h:(Zcv os p)[k]?=some o'):∃ i o,p[k]?=some i/\os[i]?=some o/\o'=Yh1 p o:=by
 unfold Zcv at h
 simp at h
 obtain⟨i,h1,h2⟩:=h
 have hi:=(hp.lt k i h1).1
 exact⟨i,os[i],h1,by simp[hi],by rw[<- h2];simp[hi]⟩
theorem Zpa (tmps:Array Value) (j:Nat):yielded (Zcv os p) tmps (p.idxOf j)=yielded os tmps j:=by
 unfold yielded
 cases h:os[j]? with
 | some o=>rw[Zm3 hp h];rfl
 | none=>
  have hj:os.size<=j:=by
   rcases Nat.lt_or_ge j os.size with q | q
   ·rw[Array.getElem?_eq_getElem q] at h;cases h
   ·exact q
  rw[IsPerm.out hp hj]
  have:(Zcv os p)[os.size]?=none:=by
   rw[Array.getElem?_eq_none];rw[Zoj hp];exact Nat.le_refl _
  rw[this]
theorem Zqn (o:Oper) (tmps:Array Value):Region.wanted (Yh1 p o) (yielded (Zcv os p) tmps)=Region.wanted o (yielded os tmps):=by
 unfold Region.wanted Yh1
 cases o.guard with
 | none=>rfl
 | some g=>show(yielded (Zcv os p) tmps (p.idxOf g.1)==some g.2)=_;rw[Zpa hp]
variable {F:Fence} {n:Nat} {P:Program} {Q:Exit->Act->World->Prop}
theorem Yf4 {i:Nat} {o:Oper} (h:os[i]?=some o) {K:Act->World->Prop} {a:Act} {w:World} (hw:wpOpIn F n P (Zcv os p) Q (p.idxOf i) K a w):wpOpIn F n P os Q i K a w:=by
 unfold wpOpIn at hw ⊢
 rw[Zm3 hp h] at hw
 rw[h]
 dsimp only at hw ⊢
 rw[Zqn hp] at hw
 exact hw
def Same (os:Array Oper) (p:List Nat) (x y:Array Bool):Prop:=x.size=os.size/\y.size=os.size/\∀ i,i<os.size->y[p.idxOf i]?=x[i]?
omit hp in
theorem Same.getD {x y:Array Bool} (hp:IsPerm os.size p) (h:Same os p x y) (i:Nat) (d:Bool):y.getD (p.idxOf i) d=x.getD i d:=by
 rw[Array.getD_eq_getD_getElem?,Array.getD_eq_getD_getElem?]
 rcases Nat.lt_or_ge i os.size with q | q
 ·rw[h.2.2 i q]
 ·rw[IsPerm.out hp q,Array.getElem?_eq_none (by rw[h.2.1];exact Nat.le_refl _),Array.getElem?_eq_none (by rw[h.1];exact q)]
theorem Zlr {x y:Array Bool} (h:Same os p x y) {i:Nat} (hi:i∈Region.ready .any os x):p.idxOf i∈Region.ready .any (Zcv os p) y:=by
 rw[mem_ready] at hi ⊢
 obtain⟨h1,o,ho,h2⟩:=hi
 refine⟨by rw[h.getD hp];exact h1,_,Zm3 hp ho,fun e he hb=>?_⟩
 obtain⟨e0,he0,rfl⟩:=Array.mem_map.1 (show e∈o.after.map _ from he)
 show y.getD (p.idxOf e0.on) false=true
 rw[h.getD hp]
 exact h2 e0 he0 hb
theorem Zqo {x y:Array Bool} (h:Same os p x y) (hr:Region.ready .any os x=[]):Region.ready .any (Zcv os p) y=[]:=by
 rw[List.eq_nil_iff_forall_not_mem]
 intro k hk
 rw[mem_ready] at hk
 obtain⟨h1,o',ho,h2⟩:=hk
 obtain⟨i,o,hpk,hoi,rfl⟩:=Yay hp ho
 have hik:=(hp.lt k i hpk).2
 have:i∈Region.ready .any os x:=by
  rw[mem_ready]
  refine⟨by rw[<- h.getD hp,hik];exact h1,o,hoi,fun e he hb=>?_⟩
  rw[<- h.getD hp]
  exact h2 { e with on:=p.idxOf e.on } (Array.mem_map.2 ⟨e,he,rfl⟩) hb
 rw[hr] at this
 cases this
theorem Zrx:∀ (fuel:Nat) (x y:Array Bool) (a:Act) (w:World),Same os p x y->wpAnyIn F n P .any (Zcv os p) Q fuel y a w->wpAnyIn F n P .any os Q fuel x a w
 | 0,x,y,a,w,h,hw=>by
  refine⟨?_,hw.2⟩
  rw[List.eq_nil_iff_forall_not_mem]
  intro i hi
  have:=Zlr hp h hi
  rw[hw.1] at this
  cases this
 | fuel+1,x,y,a,w,h,hw=>by
  refine⟨fun hr=>hw.1 (Zqo hp h hr),fun i hi=>?_⟩
  have h1:=hw.2 _ (Zlr hp h hi)
  rw[mem_ready] at hi
  obtain⟨_,o,ho,_⟩:=hi
  have hlt:i<os.size:=(Array.getElem?_eq_some_iff.1 ho).1
  refine Yf4 hp ho (wpOpIn_mono (fun a' w' h2=>Zrx fuel _ _ a' w' ?_ h2) h1)
  refine⟨by simp[h.1],by simp[h.2.1],fun j hj=>?_⟩
  rw[Array.getElem?_setIfInBounds,Array.getElem?_setIfInBounds]
  by_cases e:i=j
  ·subst e
   rw[if_pos rfl,if_pos rfl,h.1,h.2.1,if_pos hlt,if_pos (IsPerm.inn hp hlt)]
  ·have e2:p.idxOf i≠p.idxOf j:=fun q=>e (by
    have h3:=hp.back i hlt
    have h4:=hp.back j hj
    rw[q,h4] at h3
    exact(Option.some.inj h3).symm)
   rw[if_neg e,if_neg e2]
   exact h.2.2 j hj
end
theorem Ydq {r:Option Nat} (hy:YsOk ρ ys) (hcl:ClOk P ρ g cl) (hgf:g<=fl) (os:Array Oper):True->Zpg r P ρ g fl nt (fun t h n=>Zgj ys cl fl n (Zbp P nt os) t h n [] [h]) (fun Q a w=>P.follows .mixedOrders=true/\wpAnyIn (WF r) 0 P .any os Q os.size (Array.replicate os.size false) a { w with drawn:=w.drawn+1 }):=by
 intro _ t h n e t' h' n' hr hf
 have hr1:Zdb (Zgj ys cl fl n (Zbp P nt os) t h n [] [h]) e t' h' n':=hr
 rcases Zsh (ys:=ys) (cl:=cl) (fl:=fl) (n0:=n) (Zbp P nt os) t h n [] [h] with⟨k,hb⟩ | ⟨t1,h1,n1,hx,hle,V,H,N,R,csF,hsF,q1,q2,q3,q4,q5,q6,q7,q8,q9,q10,q11⟩
 ·rw[hb] at hr1;exact absurd hr1 Zb3
 rw[hx] at hr1
 obtain⟨rfl,rfl,rfl,rfl⟩:=brIs_nx.1 hr1
 have notBad:Zbp P nt os ≠ [.q .no .no .nm Zh8]:=fun q=>by
  rcases q7.turn 0 .no .no .nm Zh8 (by rw[q];rfl) with⟨h1,_⟩ | ⟨_,h1,_⟩
  ·cases h1
  ·exact Zhj h1
 have key:∃ ks,(Zbp P nt os=(os.toList.zip ks).map fun ok=>Zdi P nt os ok.1 ok.2)/\(Zbp P nt os).length=os.size/\Zge os.toList 0=true/\Zgb (Zbp P nt os) 0=true/\Ze0 (Zl6 (Zbp P nt os) (Region.before os).toList 0 0)=true/\P.follows .mixedOrders=true:=by
  rcases Zts P nt os with h1 | ⟨ks,h1,h2⟩
  ·exact absurd h1 notBad
  ·rw[<- h1] at h2
   exact⟨ks,h1,h2⟩
 obtain⟨ks,k1,k2,k3,k4,k5,k6⟩:=key
 generalize hl:Zbp P nt os=l at *
 have D:Dw P fl nt ys cl os l V H N R csF hsF (Region.before os).toList:=by
  refine⟨k2,fun i o ho=>?_,by rw[q3];exact q7,q8,by rw[q2];exact q9,q11,k4,k5,k3,(Zx9 os).2,by rw[q6];exact hle⟩
  have hzl:(os.toList.zip ks).length=os.toList.length:=by
   have:=k2
   rw[k1,List.length_map] at this
   rw[this];simp
  obtain⟨k,hk⟩:=Zvh os.toList ks i o hzl (by simpa using ho)
  exact⟨k,by rw[k1,List.getElem?_map,hk];rfl⟩
 have hab:=D.ab hcl.ab hgf (by rw[q3];exact hf) l.length (Nat.le_refl _)
 rw[q2,q3,q5,q6] at hab
 refine⟨hab,fun a m w F s fr base mk Q hQ=>⟨k6,?_⟩⟩
 have s0:Sim P ρ m g (H 0) ({ w with drawn:=w.drawn+1 }:World):=by rw[q2];exact s.of_heap rfl rfl rfl rfl
 have f0:Fresh (N 0) (N l.length) m:=by rw[q3,q6];exact fr
 refine D.any hy hcl hgf (by rw[q3];exact hf) s0 f0 (a0:=a) (m0:=m) (w0:={ w with drawn:=w.drawn+1 }) (fun a' w' m' d' F' T'=>?_) os.size _ 0 (H 0) m a _ ?_ (by simp[k2]) (by simp)
 ·rw[q4] at F'
  rw[q2,q3,q5,q6] at T'
  have T0:Tr P ρ g fl h n m w h n m ({ w with drawn:=w.drawn+1 }:World):=Tr.drew s
  have TT:=T0.trans T' (Nat.le_refl _) hab.le
  exact hQ a' w' m' (by rw[d'];exact mk.next TT) F' TT
 ·have hno:lst (Array.replicate os.size false)=fun _=>false:=by
   funext z
   unfold lst
   simp[Array.getD_eq_getD_getElem?,Array.getElem?_replicate]
   split<;>rfl
  rw[hno]
  have hts:∀ i,ts l (V 0) R (fun _=>false) i=V 0:=by
   intro i
   induction i with
   | zero=>rfl
   | succ i ih=>show(if false=true then _ else ts l (V 0) R (fun _=>false) i)=_;rw[if_neg (by simp),ih]
  refine⟨fun z hz=>(by cases hz),rfl,by rw[hts,q1];exact F,?_,Nat.zero_le _,fun i q hq he=>⟨fun h=>(by cases h),fun h=>by omega⟩,fun x hx b c z hb=>?_,fun k q _ _ h=>(by cases h),fun k hk _=>?_⟩
  ·refine⟨s0,Ext.refl _ _ _,Keep.refl _ _ _ _,fun b c z B O Z h1 h2 h3=>.inr ⟨b,c,z,O,Z,h1,h2,h3⟩⟩
  ·rcases hx with⟨rfl,_⟩ | ⟨e,q,_,_,_,h3⟩
   ·exact hb
   ·omega
  ·intro b h1 h2
   have m1:=D.mono hcl.ab hgf (by rw[q3];exact hf) (i:=0) k (Nat.zero_le _) (by omega)
   have m2:=D.mono hcl.ab hgf (by rw[q3];exact hf) (i:=k+1) l.length hk (Nat.le_refl _)
   exact f0 b (by omega) (by omega)
theorem Yj6 {r:Option Nat} (hy:YsOk ρ ys) (hcl:ClOk P ρ g cl) (hgf:g<=fl):Yib r P ρ g fl nt ys cl:=by
 intro id os
 have key:Zn4 P nt os=Zbp P nt os∨∃ p,IsPerm os.size p/\Zn4 P nt os=Zbp P nt (Zcv os p):=by
  have e:Zn4 P nt os=if Ydk (Zbp P nt os) then (if Zq0 os.size (Zur P nt os) then Zbp P nt (Zcv os (Zur P nt os)) else Zbp P nt os) else Zbp P nt os:=rfl
  rw[e]
  split
  ·split
   ·rename_i h;exact .inr ⟨_,Zxg h,rfl⟩
   ·exact .inl rfl
  ·exact .inl rfl
 rcases key with e | ⟨p,hp,e⟩
 ·rw[e]
  intro t h n e t' h' n' hr hf
  obtain⟨h1,h2⟩:=Ydq (r:=r) (nt:=nt) hy hcl hgf os trivial t h n e t' h' n' hr hf
  exact⟨h1,fun a m w F s fr base mk Q hQ=>(fun ⟨h3,h4⟩=>wpIn_region_any h3 h4) (h2 a m w F s fr base mk Q hQ)⟩
 ·rw[e]
  intro t h n e t' h' n' hr hf
  obtain⟨h1,h2⟩:=Ydq (r:=r) (nt:=nt) hy hcl hgf (Zcv os p) trivial t h n e t' h' n' hr hf
  refine⟨h1,fun a m w F s fr base mk Q hQ=>(fun ⟨h3,h4⟩=>wpIn_region_any h3 ?_) (h2 a m w F s fr base mk Q hQ)⟩
  rw[Zoj hp] at h4
  refine Zrx hp _ _ _ _ _ ⟨by simp,by simp,fun i hi=>?_⟩ h4
  rw[Array.getElem?_replicate,Array.getElem?_replicate,if_pos hi,if_pos (IsPerm.inn hp hi)]
end Go.Rn
namespace Go.Rn
variable {ρ:Rho} {P:Program}
variable {g:Nat} {ys:Ys}
abbrev Kc:=Nat->RV->Option (Nat×RV)
noncomputable def Yjz (h:HT) (n z:Nat) (ch:RV):SR:=gK (.bad [160]) (hg h 0) fun cs _=>nU (.bad [161]) (rd cs z 0) fun r=>bf (eqV r ch) (.ok (.b true) h n) (.bad [162])
noncomputable def Zcc (ys:Ys) (fs:Nat->Option RF) (orc:Nat->RV->Option RV) (kc:Kc) (deep:Nat):Cl':=
 @Nat.rec (fun _=>Cl') (fun _ _ _ _ _=>.bad [91]) (fun _ ih f a fl h n=>gO (gO (gO (.bad [92,f]) (fs f) fun r=>Zuh ys ih f r a fl h n) (orc f a) fun v=>.ok v h n) (kc f a) fun q=>bf (Nat.ble 16777216 q.1) (Yd5 (Nat.sub q.1 16777216) q.2 a fl h n) (Yjz h n q.1 q.2)) deep
structure Old (w w':World):Prop where
 os:w'.os=w.os
 tape:w'.tape=w.tape
 output:w'.output=w.output
 size:w.heap.size<=w'.heap.size
 block:∀ k,k<w.heap.size->w'.heap[k]?=w.heap[k]?
theorem Old.refl (w:World):Old w w:=⟨rfl,rfl,rfl,Nat.le_refl _,fun _ _=>rfl⟩
theorem Old.below {w w':World} (o:Old w w'):Go.RowKit.Below w.heap.size w w':=⟨o.os,o.tape,o.output,o.size,o.block⟩
def Zpo (P:Program) (ρ:Rho) (orc:Nat->RV->Option RV):Prop:=∀ f c v,orc f c=some v->known P f=true/\∀ (m:Mp) (w:World) (vs:List Value),Zbg ρ m c vs->Calls P f vs.toArray w (fun e w'=>∃ u,e=.returned u/\Old w w'/\den ρ m v u)
theorem Tr.old {fl n:Nat} {h:HT} {m:Mp} {w w':World} (s:Sim P ρ m g h w) (o:Old w w'):Tr P ρ g fl h n m w h n m w':=by
 refine⟨⟨fun b c z hb=>?_,s.inj,s.old.move o.os o.tape o.output o.size (fun k hk=>o.block k (Nat.lt_of_lt_of_le hk s.old.lo)),s.hi⟩,Ext.refl _ _ _,⟨o.os,o.tape,o.output,o.size,fun k hk _=>o.block k hk,fun k r h=>⟨r,(o.block k (Array.getElem?_eq_some_iff.1 h).1).trans h⟩⟩,fun b c z B O Z h1 h2 h3=>.inr ⟨b,c,z,O,Z,h1,h2,h3⟩⟩
 obtain⟨B,O,Z,q1,q2⟩:=s.cell b c z hb
 exact⟨B,O,Z,q1,q2.move (o.block B (s.lt hb q1)) (Le.refl _)⟩
def Yvp (P:Program) (f es:Nat):Prop:=known P f=true/\0<es/\es<1048576/\∀ (w:World) (B O n c i Bv Ov m vc:Nat) (C Cv:Array Value) (el elv:TypeId) (o1 o2 vs:List Value),
 w.heap[B]?=some (.cells C el (0,0))->w.heap[Bv]?=some (.cells Cv elv (0,0))->B≠Bv->O+c*es=C.size->n<=c->i<n->0<m->n<=65536->m<=65536->o1.length=i*es->o2.length=(n-i)*es->vs.length=m*es ->
 (∀ (j:Nat) (u:Value),o1[j]?=some u->C[O+j]?=some u)->(∀ (j:Nat) (u:Value),o2[j]?=some u->C[O+i*es+j]?=some u)->(∀ (j:Nat) (u:Value),vs[j]?=some u->Cv[Ov+j]?=some u)->(∀ x∈o1++(vs++o2),Zex x) ->
 Calls P f #[.slice (some ⟨B,O,none⟩) n c,.int .i64 i,.slice (some ⟨Bv,Ov,none⟩) m vc] w fun e w'=>∃ B' O' c' C' el',e=.returned (.slice (some ⟨B',O',none⟩) (n+m) c')/\n+m<=c'/\O'+c'*es=C'.size/\w'.heap[B']?=some (.cells C' el' (0,0))/\(B'=B∨w.heap.size<=B') /\
  (∀ (j:Nat) (u:Value),(o1++(vs++o2))[j]?=some u->C'[O'+j]?=some u)/\w'.os=w.os/\w'.tape=w.tape/\w'.output=w.output/\w.heap.size<=w'.heap.size/\∀ k,k<w.heap.size->k≠B->w'.heap[k]?=w.heap[k]?
theorem Zfp {h:HT} {m:Mp} {w:World} (s:Sim P ρ m g h w) {es b k q:Nat} {r:RV} (e:Zah h es b k q=r) (hr:r≠.un) (h0:0<q) (hgb:g<=b):∃ c z B O Z C el cs,hg h b=.bk c z/\m b=some (B,O,Z)/\w.heap[B]?=some (.cells C el (0,0))/\C.size=Z/\Zba r=some (q*es) /\
  cs.length=q*es/\Zbg ρ m r cs/\(∀ x∈cs,Zex x)/\∀ (j:Nat) (u:Value),cs[j]?=some u->C[O+k+j]?=some u:=by
 unfold Zah at e
 rcases Za0 e with⟨h1,_⟩ | ⟨_,e2⟩
 ·have:=Zak h1;omega
 ·obtain⟨c,z,hb,e3⟩:=Zg5 e2 hr.symm
  obtain⟨B,O,Z,C,el,fr,h1,h2,h3,hfr,_,h6⟩:=s.cells b c z hb (Zk1 e2 hr.symm hb)
  obtain rfl:=hfr hgb
  have e4:rd c (q*es) k=r:=e3
  obtain⟨g1,cs,g2,g3,g4,g5⟩:=Zt9 h6 (q*es) k (by rw[e4];exact hr)
  rw[e4] at g1 g3
  exact⟨c,z,B,O,Z,C,el,cs,hb,h1,h2,h3,g1,g2,g3,g4,g5⟩
theorem Ygk {f es fl n n':Nat} {c v:RV} {h h':HT} (hI:Yvp P f es) (hgf:g<=fl) (hf:fl<=n) (e:Yo2 es c fl h n=.ok v h' n') :
  Ab fl h n h' n'/\∀ (m:Mp) (w:World) (vs:List Value),Sim P ρ m g h w->Zbg ρ m c vs->Fresh n n' m->Calls P f vs.toArray w (fun e w'=>∃ u m',e=.returned u/\Tr P ρ g fl h n m w h' n' m' w'/\den ρ m' v u):=by
 obtain⟨_,hes0,hes1,hI⟩:=hI
 unfold Yo2 at e
 rcases Zbd e (by simp) with⟨_,e1⟩ | ⟨x,r,rfl,e1⟩
 ·cases e1
 rcases Zbd e1 (by simp) with⟨_,e2⟩ | ⟨iv,r,rfl,e2⟩
 ·cases e2
 rcases Zbd e2 (by simp) with⟨_,e3⟩ | ⟨y,r,rfl,e3⟩
 ·cases e3
 rcases Zbd e3 (by simp) with⟨rfl,e4⟩ | ⟨_,_,_,e4⟩
 case inr=>cases e4
 rcases Zif e4 (by simp) with⟨_,e5⟩ | ⟨_,_,_,_,_,e5⟩ | ⟨b,o,l,ee,rfl,e5⟩ | ⟨_,_,_,e5⟩
 ·cases e5
 ·cases e5
 case inr.inr.inr=>cases e5
 obtain⟨j,z,rfl,e6⟩:=Zg6 e5 (by simp)
 obtain⟨h64,e7⟩:=Zad e6 (by simp)
 obtain⟨hnn,e8⟩:=Zad e7 (by simp)
 have hj:j=.i64:=by cases j<;>first | rfl | cases h64
 subst hj
 cases z with
 | negSucc z=>cases hnn
 | ofNat i=>
  rcases Zif e8 (by simp) with⟨_,e9⟩ | ⟨vb,vo,q,vc,rfl,e9⟩ | ⟨_,_,_,_,_,e9⟩ | ⟨_,_,_,e9⟩
  ·cases e9
  case inr.inr.inl=>cases e9
  case inr.inr.inr=>cases e9
  obtain⟨hok,e10⟩:=Zad e9 (by simp)
  have hok:Yeb fl es b l ee vb q i=true:=hok
  have e:Yo1 es b o l vb vo q i h n=.ok v h' n':=e10
  unfold Yeb at hok
  obtain⟨k1,hok⟩:=Zad hok (by simp)
  obtain⟨k2,hok⟩:=Zad hok (by simp)
  obtain⟨k3,hok⟩:=Zad hok (by simp)
  rcases Za0 hok with⟨_,hok⟩ | ⟨k4,hok⟩
  ·cases hok
  obtain⟨k5,hok⟩:=Zad hok (by simp)
  obtain⟨k6,hok⟩:=Zad hok (by simp)
  obtain⟨k7,k8⟩:=Zad hok (by simp)
  have k1:ee % 1048576=es:=Zak k1
  have k2:=Zam k2
  have k3:=Zam k3
  have k4:b≠vb:=fun q=>by subst q;simp at k4
  have k5:=Zam k5
  have k6:=Zam k6
  have k7:=Zam k7
  have k8:=Zam k8
  unfold Yo1 at e
  obtain⟨hu,e⟩:=Za4 e (by simp)
  unfold Zl7 at e
  obtain⟨hu2,e⟩:=Za4 e (by simp)
  obtain⟨hv,hn',hh',hmz⟩:=Zd7 e
  have hab0:Ab fl h n (hst h .no b) n:=Ab.set _ k2 (fun _ _ p=>by cases p)
  refine⟨by rw[hn',hh'];exact hab0.trans (Ab.new _ hf),fun m w vs0 s hd hfr=>?_⟩
  obtain⟨xv,_,rfl,dx,d1⟩:=denC_cons.1 hd
  obtain⟨ivv,_,rfl,di,d2⟩:=denC_cons.1 d1
  obtain⟨yv,_,rfl,dy,d3⟩:=denC_cons.1 d2
  obtain rfl:=denC_nil.1 d3
  have di:ivv=.int .i64 (i:Int):=di
  subst di
  have hr1:Zah h es vb vo q≠.un:=fun p=>hu (by rw[p];rfl)
  have hr2:Zah h es b (Nat.add o (Nat.mul i es)) (Nat.sub l i)≠.un:=fun p=>hu (by rw[p];exact Zsm _)
  obtain⟨cv,zv,Bv,Ov,Zv,Cv,elv,vs,p1,p2,p3,p4,p5,p6,p7,p8,p9⟩:=Zfp s rfl hr1 k6 (Nat.le_trans hgf k3)
  obtain⟨c0,z0,B,O,Z,C,el,o2,q1,q2,q3,q4,q5,q6,q7,q8,q9⟩:=Zfp s rfl hr2 (by show 0<l-i;omega) (Nat.le_trans hgf k2)
  obtain⟨o1,r5,r6,r7,r8,r9⟩:∃ o1:List Value,Zba (Zah h es b o i)=some (i*es)/\o1.length=i*es/\Zbg ρ m (Zah h es b o i) o1/\(∀ x∈o1,Zex x)/\∀ (j:Nat) (u:Value),o1[j]?=some u->C[O+o+j]?=some u:=by
   rcases Nat.eq_zero_or_pos i with p0 | p0
   ·subst p0
    refine⟨[],?_,by simp,denC_nil.2 rfl,by simp,by simp⟩
    show some 0=_
    rw[Nat.zero_mul]
   ·have hr3:Zah h es b o i≠.un:=fun p=>hu2 (by rw[p];rfl)
    obtain⟨c1,z1,B1,O1,Z1,C1,el1,o1,t1,t2,t3,t4,t5,t6,t7,t8,t9⟩:=Zfp s rfl hr3 p0 (Nat.le_trans hgf k2)
    rw[q2] at t2
    cases t2
    rw[q3] at t3
    cases t3
    exact⟨o1,t5,t6,t7,t8,t9⟩
  obtain⟨B2,O2,Z2,c2,y1,y2,y3,rfl⟩:=dx
  rw[q2] at y1
  cases y1
  obtain⟨B3,O3,Z3,x1,x2,rfl⟩:=dy
  rw[p2] at x1
  cases x1
  have hBB:B≠Bv:=fun e=>by
   subst e
   exact k4 (s.inj b vb c0 z0 cv zv B O Z Ov Zv q1 p1 q2 p2)
  obtain⟨u1,u2⟩:=Zh2 q5 _ p5
  obtain⟨u3,u4⟩:=Zh2 u2 _ r5
  have w1:=Ze5 q7 vs hu p7
  have w2:=Ze5 w1 o1 hu2 r7
  have hall:∀ x∈o1++(vs++o2),Zex x:=fun x hx=>(List.mem_append.1 hx).elim (r8 x) fun hx=>(List.mem_append.1 hx).elim (p8 x) (q8 x)
  have hlen:i*es+(q*es+Nat.sub l i*es)=Nat.mul (Nat.add i (Nat.add (Nat.sub l i) q)) es:=by
   show i*es+(q*es+(l-i)*es)=(i+((l-i)+q))*es
   rw[Nat.add_mul,Nat.add_mul]
   omega
  rw[hlen] at u4
  rw[k1] at y3
  have hn:=hfr n (Nat.le_refl _) (by omega)
  refine(hI w B (O+o) l c2 i Bv (Ov+vo) q vc C Cv el elv o1 o2 vs q3 p3 hBB (by omega) (by omega) (by omega) k6 k7 k8 r6 q6 p6 r9 (fun j u hj=>by
   have:=q9 j u hj
   rwa [show O+Nat.add o (Nat.mul i es)+j=O+o+i*es+j by show O+(o+i*es)+j=_;omega] at this) p9 hall).mono ?_
  rintro e w' ⟨B',O',c',C',el',rfl,f1,f2,f3,f4,f5,f6,f7,f8,f9,f10⟩
  have hkn:=Zew (C:=C') (O:=O') u4 w2 hall f5
  refine⟨_,upd m n (B',O',C'.size),rfl,?_,?_⟩
  ·rw[hh',hn']
   exact Tr.anew s q1 (Nat.le_trans hgf k2) k2 q2 q3 hn f3 f4 f6 f7 f8 f9 f10 hmz hkn.1 (hkn.2.le (Zfa hn))
  ·rw[hv]
   have hnum:Nat.add i (Nat.add (Nat.sub l i) q)=l+q:=by show i+((l-i)+q)=l+q;omega
   refine⟨B',O',C'.size,c',Zao _ _,?_,?_,by rw[hnum];rfl⟩
   ·rw[hnum,Nat.div_eq_of_lt hes1];omega
   ·rw[Nat.mod_eq_of_lt hes1];omega
/-! strings.Join -/
def Yka (P:Program) (f:Nat):Prop:=known P f=true/\∀ (w:World) (B O c:Nat) (xs:List ByteArray) (sep:ByteArray),B<w.heap.size->(∀ (j:Nat) (x:ByteArray),xs[j]?=some x->w.cell? ⟨B,O+j,none⟩=some (.string x))->2<=xs.length->xs.length<=65536->xs.length<=c ->
 (Lib.join (xs.map (·.data.toList)) sep.data.toList).length<=1048576->Calls P f #[.slice (some ⟨B,O,none⟩) xs.length c,.string sep] w fun e w'=>e=.returned (.string ⟨(Lib.join (xs.map (·.data.toList)) sep.data.toList).toArray⟩)/\Old w w'
def Yb8 (l:List Nat):ByteArray:=⟨(l.map UInt8.ofNat).toArray⟩
theorem Ybh {m:Mp} {sep:List Nat}:∀ {c:RV} {us:List Value} {l:List Nat},Yea sep c=some l->Zbg ρ m c us->∃ xs:List (List Nat),us=xs.map (fun x=>Value.string (Yb8 x))/\(∀ x∈xs,∀ b∈x,b<256)/\l.map UInt8.ofNat=Lib.join (xs.map (fun x=>x.map UInt8.ofNat)) (sep.map UInt8.ofNat)/\((∀ b∈sep,b<256)->∀ b∈l,b<256):=by
 intro c
 induction c with
 | nil=>
  intro us l h hd
  have h':some []=some l:=h
  cases h'
  exact⟨[],denC_nil.1 hd,(fun _ h=>absurd h List.not_mem_nil),rfl,(fun _ _ h=>absurd h List.not_mem_nil)⟩
 | cons x t _ ih=>
  intro us l h hd
  have h':gS none x (fun q=>gN none t (some q) fun _ _=>gO none (Yea sep t) fun r=>some (q++(sep++r)))=some l:=h
  obtain⟨q,rfl,h1⟩:=Zs0 h' (by simp)
  obtain⟨u,us',rfl,h2,h3⟩:=denC_cons.1 hd
  obtain⟨rfl,hq⟩:u=.string (Yb8 q)/\∀ x∈q,x<256:=h2
  rcases Zbd h1 (by simp) with⟨rfl,h4⟩ | ⟨a,b,rfl,h4⟩
  ·cases h4
   have:=denC_nil.1 h3
   subst this
   exact⟨[l],rfl,(fun x hx=>by rw[List.mem_singleton.1 hx];exact hq),(Lib.join_one _ _).symm,fun _=>hq⟩
  ·obtain⟨r,h5,h6⟩:=Za5 h4 (by simp)
   cases h6
   obtain⟨xs,rfl,h7,h8,h9⟩:=ih h5 h3
   refine⟨q::xs,rfl,fun x hx=>?_,?_,fun hs b hb=>?_⟩
   ·rcases List.mem_cons.1 hx with rfl | hx
    ·exact hq
    ·exact h7 x hx
   ·cases xs with
    | nil=>
     obtain⟨_,_,h10,_,_⟩:=denC_cons.1 h3
     cases h10
    | cons y ys=>
     rw[List.map_cons,Lib.join_cons]
     rw[List.map_cons,Lib.join_cons] at h8
     rw[List.map_cons,List.map_append,List.map_append,h8]
     simp[Lib.joinTail]
   ·rcases List.mem_append.1 hb with hb | hb
    ·exact hq b hb
    ·rcases List.mem_append.1 hb with hb | hb
     ·exact hs b hb
     ·exact h9 hs b hb
 | _=>intro us l h;cases h
theorem Zke (x:List Nat):(Yb8 x).data.toList=x.map UInt8.ofNat:=by simp[Yb8]
theorem Ybg {f fl n n':Nat} {c v:RV} {h h':HT} (hJ:Yka P f) (e:Yd9 c h n=.ok v h' n') :
  Ab fl h n h' n'/\∀ (m:Mp) (w:World) (vs:List Value),Sim P ρ m g h w->Zbg ρ m c vs->Calls P f vs.toArray w (fun e w'=>∃ u m',e=.returned u/\Tr P ρ g fl h n m w h' n' m' w'/\den ρ m' v u):=by
 obtain⟨_,hJ⟩:=hJ
 unfold Yd9 at e
 rcases Zbd e (by simp) with⟨_,e1⟩ | ⟨x,r,rfl,e1⟩
 ·cases e1
 rcases Zbd e1 (by simp) with⟨_,e2⟩ | ⟨y,r,rfl,e2⟩
 ·cases e2
 rcases Zbd e2 (by simp) with⟨rfl,e3⟩ | ⟨_,_,_,e3⟩
 case inr=>cases e3
 obtain⟨q,hq,e4⟩:=Za5 e3 (by simp)
 obtain⟨hqq,e5⟩:=Zad e4 (by simp)
 obtain⟨hq1,hq2⟩:=Zad hqq (by simp)
 have hq1:=Nat.le_of_ble_eq_true hq1
 have hq2:=Nat.le_of_ble_eq_true hq2
 obtain⟨sep,rfl,e6⟩:=Zs0 e5 (by simp)
 obtain⟨hcu,e7⟩:=Za4 e6 (by simp)
 obtain⟨l,hl,e8⟩:=Za5 e7 (by simp)
 obtain⟨hll,e9⟩:=Zad e8 (by simp)
 have hll:=Nat.le_of_ble_eq_true hll
 cases e9
 refine⟨Ab.refl _ _ _,fun m w vs s hd=>?_⟩
 obtain⟨u,us,rfl,d1,d2⟩:=denC_cons.1 hd
 obtain⟨u2,us2,rfl,d3,d4⟩:=denC_cons.1 d2
 have:=denC_nil.1 d4
 subst this
 obtain⟨rfl,hsep⟩:u2=.string (Yb8 sep)/\∀ x∈sep,x<256:=d3
 have key:∃ (b k:Nat),Zah h 1 b k q≠.un/\Zb6 h 1 x q=Zah h 1 b k q/\∃ B O Z c,m b=some (B,O,Z)/\q<=c/\u=.slice (some ⟨B,O+k,none⟩) q c:=by
  rcases Zif (rfl:Zb6 h 1 x q=Zb6 h 1 x q) (Ne.symm hcu) with⟨rfl,e2⟩ | ⟨b,k,l,c,rfl,e2⟩ | ⟨b,k,l,f,rfl,e2⟩ | ⟨b,f,rfl,e2⟩
  ·cases hq;omega
  ·obtain⟨_,e3⟩:=Zad e2 (Ne.symm hcu)
   obtain⟨B',O',Z',hm,hle,hx⟩:=d1
   cases hq
   exact⟨b,k,by rw[e3];exact hcu,e3.symm,B',O',Z',c,hm,hle,hx⟩
  ·obtain⟨_,e3⟩:=Zad e2 (Ne.symm hcu)
   obtain⟨B',O',Z',cc,hm,hle,_,hx⟩:=d1
   cases hq
   exact⟨b,k,by rw[e3];exact hcu,e3.symm,B',O',Z',cc,hm,by omega,hx⟩
  ·cases hq;omega
 obtain⟨b,k,hru,hrow,B,O,Z,cap,hm,hcap,rfl⟩:=key
 obtain⟨c',z,B',O',Z',C,el,fr,cs,g1,g2,g3,g4,g5,g6,g7,g8,g9⟩:=Zbc s rfl hru (by omega)
 rw[hm] at g2
 cases g2
 rw[hrow] at hl
 obtain⟨xs,rfl,hxs,hjl,hby⟩:=Ybh hl g7
 rw[List.length_map,Nat.mul_one] at g6
 have hB:B<w.heap.size:=by
  rcases Nat.lt_or_ge B w.heap.size with p | p
  ·exact p
  ·rw[Array.getElem?_eq_none p] at g3;cases g3
 have hmap:(xs.map Yb8).map (fun x=>x.data.toList)=xs.map (fun x=>x.map UInt8.ofNat):=by
  rw[List.map_map]
  exact List.map_congr_left fun x _=>Zke x
 have hj:=hJ w B (O+k) cap (xs.map Yb8) (Yb8 sep) hB (fun j x hj=>by
  rw[Zb7 g3]
  refine g9 j _ ?_
  rw[List.getElem?_map] at hj ⊢
  obtain⟨a,ha,rfl⟩:=Option.map_eq_some_iff.1 hj
  rw[ha];rfl) (by rw[List.length_map,g6];omega) (by rw[List.length_map,g6];omega) (by rw[List.length_map,g6];exact hcap) (by
  rw[hmap,Zke,<- hjl,List.length_map];exact hll)
 rw[hmap,Zke,<- hjl,List.length_map,g6] at hj
 refine hj.mono ?_
 rintro e w' ⟨rfl,o⟩
 exact⟨_,m,rfl,Tr.old s o,rfl,hby hsep⟩
/-! calls that are told -/
def Yhv (ρ:Rho) (m:Mp) (w:World) (d:RV) (v:Value):Prop:=match d with
 | .tup t=>∃ B C el fr,v=.pointer (some ⟨B,0,none⟩)/\w.heap[B]?=some (.cells C el fr)/\ρ.th t (.cells C el fr)
 | .nil=>∃ B O c,v=.slice (some ⟨B,O,none⟩) 0 c
 | .cons a r=>∃ (B O c:Nat) (xs:List Value),v=.slice (some ⟨B,O,none⟩) xs.length c/\xs.length<=c/\Zbg ρ m (.cons a r) xs/\∀ (j:Nat) (x:Value),xs[j]?=some x->w.cell? ⟨B,O+j,none⟩=some x
 | d=>den ρ m d v
def Zkv (ρ:Rho) (m:Mp) (w:World):RV->List Value->Prop
 | .nil,vs=>vs=[]
 | .cons d t,vs=>∃ (x:Value) (xs:List Value),vs=x::xs/\Yhv ρ m w d x/\Zkv ρ m w t xs
 | _,_=>False
theorem Ydp {h:HT} {m:Mp} {w:World} (s:Sim P ρ m g h w) {b o l:Nat} {v:Value} {d:RV} (e:Zah h 1 b o l=d) (hd:d≠.un) (hv:∃ B O Z c,m b=some (B,O,Z)/\l<=c/\v=.slice (some ⟨B,O+o,none⟩) l c):Yhv ρ m w d v:=by
 obtain⟨B,O,Z,c,h1,h2,rfl⟩:=hv
 rcases Nat.eq_zero_or_pos l with p | p
 ·subst p
  have:d=.nil:=by
   rw[<- e];rfl
  subst this
  exact⟨_,_,_,rfl⟩
 ·obtain⟨c',z,B',O',Z',C,el,fr,cs,g1,g2,g3,g4,g5,g6,g7,g8,g9⟩:=Zbc s rfl (by rw[e];exact hd) p
  rw[h1] at g2
  cases g2
  rw[e] at g5 g7
  rw[Nat.mul_one] at g5 g6
  cases d with
  | cons a r=>
   refine⟨B,O+o,c,cs,by rw[g6],by omega,g7,fun j x hx=>?_⟩
   rw[Zb7 g3]
   exact g9 j x hx
  | nil=>
   have g5':some 0=some l:=g5
   cases g5'
   omega
  | _=>cases g5
theorem Yg0 {h:HT} {m:Mp} {w:World} (s:Sim P ρ m g h w) {x d:RV} {v:Value} (e:Yo4 h x=d) (hd:d≠.un) (dv:den ρ m x v):Yhv ρ m w d v:=by
 cases x with
 | p b o=>
  have e1:bf (Nat.beq o 0) (gMK .un (hg h b) fun cs=>gT .un (cg cs 0) fun t=>.tup t) .un=d:=e
  obtain⟨h1,h2⟩:=Zad e1 (Ne.symm hd)
  obtain rfl:=Zak h1
  obtain⟨cs,h3,h4⟩:=Zfg h2 (Ne.symm hd)
  obtain⟨t,h5,h6⟩:=Zy0 h4 (Ne.symm hd)
  subst h6
  obtain⟨B,Z,C,el,fr,q1,q2,q3⟩:=s.told h3 h5
  obtain⟨B',O',Z',q4,rfl⟩:=dv
  rw[q1] at q4
  cases q4
  exact⟨B,C,el,fr,rfl,q2,q3⟩
 | ns=>
  have e1:RV.ns=d:=e
  subst e1
  exact dv
 | sl b o l c=>
  obtain⟨B,O,Z,h1,h2,h3⟩:=dv
  exact Ydp s e hd ⟨B,O,Z,c,h1,h2,h3⟩
 | su b o l c=>
  obtain⟨B,O,Z,c,h1,h2,h3,h4⟩:=dv
  exact Ydp s e hd ⟨B,O,Z,c,h1,by omega,h4⟩
 | i k z=>
  have e1:RV.i k z=d:=e
  subst e1
  exact dv
 | y k z=>
  have e1:RV.y k z=d:=e
  subst e1
  exact dv
 | fn f c=>
  have e1:RV.fn f c=d:=e
  subst e1
  exact dv
 | b z=>
  have e1:RV.b z=d:=e
  subst e1
  exact dv
 | agg c=>
  have e1:RV.agg c=d:=e
  subst e1
  exact dv
 | _=>exact absurd e.symm hd
theorem Zwo {h:HT} {m:Mp} {w:World} (s:Sim P ρ m g h w):∀ {c ds:RV} {vs:List Value},Yh7 h c=ds->ds≠.un->Zbg ρ m c vs->Zkv ρ m w ds vs:=by
 intro c
 induction c with
 | nil=>
  intro ds vs e hd dv
  have e1:RV.nil=ds:=e
  subst e1
  exact denC_nil.1 dv
 | cons x t _ ih=>
  intro ds vs e hd dv
  obtain⟨v,vs',rfl,h1,h2⟩:=denC_cons.1 dv
  have e1:nU .un (Yo4 h x) (fun x=>nU .un (Yh7 h t) fun r=>.cons x r)=ds:=e
  obtain⟨h3,e2⟩:=Za4 e1 (Ne.symm hd)
  obtain⟨h4,e3⟩:=Za4 e2 (Ne.symm hd)
  subst e3
  exact⟨v,vs',rfl,Yg0 s rfl h3 h1,ih rfl h4 h2⟩
 | _=>intro ds vs e hd;exact absurd e.symm hd
def inC:RV->RV->Prop
 | .cons x r,a=>a=x∨inC r a
 | _,_=>False
theorem Yhf {ds v:RV} {h':HT} {n':Nat} {k:Nat->RV->SR}:∀ {alts:RV},Ycj alts ds k=.ok v h' n'->∃ F ks s,inC alts (.fn F (.cons ks s))/\Ztz s ds=true/\k F ks=.ok v h' n':=by
 intro alts
 induction alts with
 | cons a r _ ih=>
  intro e
  have e1:gF (Ycj r ds k) a (fun F c=>gN (Ycj r ds k) c (Ycj r ds k) fun ks s=>bf (Ztz s ds) (k F ks) (Ycj r ds k))=.ok v h' n':=e
  have next:Ycj r ds k=.ok v h' n'->∃ F ks s,inC (.cons a r) (.fn F (.cons ks s))/\Ztz s ds=true/\k F ks=.ok v h' n':=fun q=>by
   obtain⟨F,ks,s,q1,q2,q3⟩:=ih q
   exact⟨F,ks,s,.inr q1,q2,q3⟩
  cases a with
  | fn F c=>
   cases c with
   | cons ks s=>
    rcases Za0 (show bf (Ztz s ds) (k F ks) (Ycj r ds k)=_ from e1) with⟨q1,q2⟩ | ⟨_,q2⟩
    ·exact⟨F,ks,s,.inl rfl,q1,q2⟩
    ·exact next q2
   | _=>exact next e1
  | _=>exact next e1
 | _=>intro e;cases e
theorem Yhe {ds v:RV} (hv:v≠.un):∀ {alts:RV},Ynu alts ds=v->∃ s,inC alts (.cons s v)/\s=ds:=by
 intro alts
 induction alts with
 | cons a r _ ih=>
  intro e
  have next:Ynu r ds=v->∃ s,inC (.cons a r) (.cons s v)/\s=ds:=fun q=>by
   obtain⟨s,q1,q2⟩:=ih q
   exact⟨s,.inr q1,q2⟩
  cases a with
  | cons s x=>
   rcases Za0 (show bf (eqV s ds) x (Ynu r ds)=_ from e) with⟨q1,q2⟩ | ⟨_,q2⟩
   ·subst q2
    exact⟨s,.inl rfl,Zj6 _ _ q1⟩
   ·exact next q2
  | _=>exact next e
 | _=>intro e;exact absurd e.symm hv
def Objs (ρ:Rho) (ds:RV) (b0:Nat) (w:World):RV->Nat->List Nat->Prop
 | .nil,_,Bs=>Bs=[]
 | .cons k r,F,Bs=>∃ (B:Nat) (t:List Nat) (C:Array Value) (el:TypeId) (fr:Nat×Nat),Bs=B::t/\b0<=B/\B∉t/\w.heap[B]?=some (.cells C el fr)/\ρ.th (.cons k (.fn F ds)) (.cells C el fr)/\Objs ρ ds b0 w r (F+1) t
 | _,_,_=>False
def Zya (B:Nat):Value:=.pointer (some ⟨B,0,none⟩)
theorem Zxl {ds v:RV} {h':HT} {n' fl b0:Nat}:∀ {ks:RV} {F:Nat} {h:HT} {n:Nat} {k:RV->HT->Nat->SR},Zux ks ds F h n k=.ok v h' n'->fl<=n->∃ c h2 n2,k c h2 n2=.ok v h' n'/\Ab fl h n h2 n2 /\
  ∀ (m:Mp) (w:World) (Bs:List Nat),Sim P ρ m g h w->Fresh n n2 m->Objs ρ ds b0 w ks F Bs->(∀ B∈Bs,∀ b c z O Z,hg h b=.bk c z->m b≠some (B,O,Z))->(∀ B∈Bs,ρ.base<=B) ->
   ∃ m2,Sim P ρ m2 g h2 w/\Ext n n2 m m2/\Le m m2/\(∀ b c z B O Z,hg h2 b=.bk c z->m2 b=some (B,O,Z)->B∈Bs∨(hg h b=.bk c z/\m b=some (B,O,Z)))/\Zbg ρ m2 c (Bs.map Zya):=by
 intro ks
 induction ks with
 | nil=>
  intro F h n k e hf
  refine⟨.nil,h,n,e,Ab.refl _ _ _,fun m w Bs s hfr ho _ _=>⟨m,s,Ext.refl _ _ _,Le.refl _,fun b c z B O Z h1 h2=>.inr ⟨h1,h2⟩,?_⟩⟩
  have:Bs=[]:=ho
  subst this
  exact denC_nil.2 rfl
 | cons kd r _ ih=>
  intro F h n k e hf
  have e1:fT (cst ce (.tup (.cons kd (.fn F ds))) 0) (fun cs=>fT (hst h (.bk cs Za2) n) fun h=>Zux r ds (Nat.succ F) h (Nat.succ n) fun c h n2=>k (.cons (.p n 0) c) h n2)=.ok v h' n':=e
  rw[Zb4,Zb4] at e1
  obtain⟨c,h2,n2,e2,ab,hs⟩:=ih e1 (Nat.le_succ_of_le hf)
  have hn2:=ab.le
  refine⟨_,h2,n2,e2,(Ab.new _ hf).trans ab,fun m w Bs s hfr ho hno hba=>?_⟩
  obtain⟨B,t,C,el,fr,rfl,hB,hBt,hh,ht,ho⟩:=ho
  have hn:m n=none:=hfr n (Nat.le_refl _) (by omega)
  have s1:=s.tell hn (hba B List.mem_cons_self) hh ht (hno B List.mem_cons_self)
  have hne:∀ b,b≠n->upd m n (B,0,0) b=m b:=fun b e=>by unfold upd;rw[if_neg e]
  have hold:∀ b,b≠n->hg (hst h (.bk (cst ce (.tup (.cons kd (.fn F ds))) 0) Za2) n) b=hg h b:=fun b hb=>by
   rcases Za6 h (.bk (cst ce (.tup (.cons kd (.fn F ds))) 0) Za2) n b with⟨h1,_⟩ | ⟨_,h1⟩
   ·exact absurd h1 hb
   ·exact h1
  obtain⟨m2,q1,q2,q3,q4,q5⟩:=hs (upd m n (B,0,0)) w t s1 (fun b h1 h2=>by rw[hne b (by omega)];exact hfr b (by omega) h2) ho (fun B' hB' b c z O Z h1 h2=>by
   by_cases e:b=n
   ·subst e
    rw[Zao] at h2
    cases h2
    exact hBt hB'
   ·rw[hold b e] at h1
    rw[hne b e] at h2
    exact hno B' (List.mem_cons_of_mem _ hB') b c z O Z h1 h2) (fun B' hB'=>hba B' (List.mem_cons_of_mem _ hB'))
  have hmn:m2 n=some (B,0,0):=q3 n _ (Zao _ _)
  refine⟨m2,q1,fun b hb=>?_,fun b x hb=>q3 _ _ (Zfa hn b x hb),fun b c z B' O Z h1 h2=>?_,denC_cons.2 ⟨_,_,rfl,⟨B,0,0,hmn,rfl⟩,q5⟩⟩
  ·rw[q2 b (by omega),hne b (by omega)]
  ·rcases q4 b c z B' O Z h1 h2 with h3 | ⟨h3,h4⟩
   ·exact .inl (List.mem_cons_of_mem _ h3)
   ·by_cases e:b=n
    ·subst e
     rw[hmn] at h2
     cases h2
     exact .inl List.mem_cons_self
    ·rw[hold b e] at h3
     rw[hne b e] at h4
     exact .inr ⟨h3,h4⟩
 | _=>intro F h n k e;cases e
def wrapV (es:Nat) (Bs:List Nat):Value:=if es=33554432 then (match Bs with | [B]=>Zya B | _=>undef) else if es=33554434 then .tuple (Bs.map Zya).toArray else .agg (Bs.map Zya).toArray
theorem Yaw (Bs:List Nat):∀ x∈Bs.map Zya,Zex x:=by
 intro x hx
 obtain⟨B,_,rfl⟩:=List.mem_map.1 hx
 rfl
theorem Zy5 {es:Nat} {c v:RV} {m:Mp} {Bs:List Nat} (e:Yic es c=v) (hv:v≠.un) (hd:Zbg ρ m c (Bs.map Zya)):den ρ m v (wrapV es Bs):=by
 unfold wrapV
 rcases Za0 e with⟨h1,h2⟩ | ⟨h1,h2⟩
 ·rw[if_pos (Zak h1)]
  rcases Zbd h2 (Ne.symm hv) with⟨_,h3⟩ | ⟨x,r,rfl,h3⟩
  ·exact absurd h3.symm hv
  ·rcases Zbd h3 (Ne.symm hv) with⟨rfl,h4⟩ | ⟨_,_,_,h4⟩
   ·subst h4
    obtain⟨u,us,h5,h6,h7⟩:=denC_cons.1 hd
    have:=denC_nil.1 h7
    subst this
    match Bs,h5 with
    | [B],h5=>cases h5;exact h6
   ·exact absurd h4.symm hv
 ·rw[if_neg (fun q=>by subst q;cases h1)]
  rcases Za0 h2 with⟨h3,h4⟩ | ⟨h3,h4⟩
  ·rw[if_pos (Zak h3)]
   subst h4
   exact⟨_,hd,rfl⟩
  ·rw[if_neg (fun q=>by subst q;cases h3)]
   subst h4
   exact⟨_,hd,Yaw _,rfl⟩
def Yhw (P:Program) (ρ:Rho) (f es:Nat) (ch:RV):Prop:=∀ (F:Nat) (ks s:RV),inC ch (.fn F (.cons ks s))->∀ (ds:RV),Ztz s ds=true->∀ (m:Mp) (w:World) (vs:List Value),ρ.Old w->Zkv ρ m w ds vs ->
 Calls P f vs.toArray w (fun e w'=>∃ Bs:List Nat,e=.returned (wrapV es Bs)/\Objs ρ ds w.heap.size w' ks F Bs/\Old w w')
def Ypc (P:Program) (ρ:Rho) (f:Nat) (ch:RV):Prop:=∀ (s r:RV),inC ch (.cons s r)->∀ (m:Mp) (w:World) (vs:List Value),ρ.Old w->Zkv ρ m w s vs ->
 Calls P f vs.toArray w (fun e w'=>∃ u:Value,e=.returned u/\Old w w'/\∀ m',den ρ m' r u)
theorem Yhg {f es fl n n':Nat} {ch c v:RV} {h h':HT} (hO:es≠33554433->Yhw P ρ f es ch) (hV:es=33554433->Ypc P ρ f ch) (e:Yo9 es ch c fl h n=.ok v h' n') :
  Ab fl h n h' n'/\∀ (m:Mp) (w:World) (vs:List Value),Sim P ρ m g h w->Zbg ρ m c vs->Fresh n n' m->Calls P f vs.toArray w (fun e w'=>∃ u m',e=.returned u/\Tr P ρ g fl h n m w h' n' m' w'/\den ρ m' v u):=by
 unfold Yo9 at e
 obtain⟨hds,e1⟩:=Za4 e (by simp)
 rcases Za0 e1 with⟨h1,e2⟩ | ⟨h1,e2⟩
 ·obtain⟨hr,e3⟩:=Za4 e2 (by simp)
  cases e3
  refine⟨Ab.refl _ _ _,fun m w vs s hd hfr=>?_⟩
  obtain⟨s0,q1,q2⟩:=Yhe hr rfl
  have hD:=Zwo s rfl hds hd
  rw[<- q2] at hD
  refine(hV (Zak h1) s0 _ q1 m w vs s.old hD).mono ?_
  rintro e w' ⟨u,rfl,o,hu⟩
  exact⟨u,m,rfl,Tr.old s o,hu m⟩
 ·obtain⟨hfl,e3⟩:=Zad e2 (by simp)
  have hfl:=Zam hfl
  obtain⟨F,ks,s0,q1,q2,q3⟩:=Yhf e3
  obtain⟨c2,h2,n2,q4,ab,hs⟩:=Zxl (P:=P) (ρ:=ρ) (g:=g) (b0:=0) q3 hfl
  obtain⟨hv,q5⟩:=Za4 q4 (by simp)
  cases q5
  refine⟨ab,fun m w vs s hd hfr=>?_⟩
  have hD:=Zwo s rfl hds hd
  refine(hO (fun q=>by subst q;cases h1) F ks s0 q1 _ q2 m w vs s.old hD).mono ?_
  rintro e w' ⟨Bs,rfl,ho,o⟩
  have T:=Tr.old (n:=n) (fl:=fl) s o
  have hlo:∀ {ks:RV} {F:Nat} {Bs:List Nat},Objs ρ (Yh7 h c) w.heap.size w' ks F Bs->(∀ B∈Bs,w.heap.size<=B)/\Objs ρ (Yh7 h c) 0 w' ks F Bs:=by
   intro ks
   induction ks with
   | nil=>intro F Bs ho;have:Bs=[]:=ho;subst this;exact⟨(fun _ q=>by cases q),rfl⟩
   | cons k r _ ih=>
    rintro F Bs ⟨B,t,C,el,fr,rfl,p1,p2,p3,p4,p5⟩
    obtain⟨p6,p7⟩:=ih p5
    refine⟨fun B' hB'=>?_,B,t,C,el,fr,rfl,Nat.zero_le _,p2,p3,p4,p7⟩
    rcases List.mem_cons.1 hB' with rfl | q
    ·exact p1
    ·exact p6 _ q
   | _=>intro F Bs ho;exact ho.elim
  obtain⟨p1,p2⟩:=hlo ho
  obtain⟨m2,r1,r2,_,r4,r5⟩:=hs m w' Bs T.sim hfr p2 (fun B hB b c z O Z h3 h4=>by have:=s.lt h3 h4;have:=p1 B hB;omega) (fun B hB=>Nat.le_trans s.old.lo (p1 B hB))
  refine⟨_,m2,rfl,⟨r1,r2,T.keep,fun b c z B O Z h3 h4 h5=>?_⟩,Zy5 rfl hv r5⟩
  rcases r4 b c z B O Z h4 h5 with h6 | ⟨h6,h7⟩
  ·exact .inl (p1 B h6)
  ·exact .inr ⟨b,c,z,O,Z,h3,h6,h7⟩
def Yeg (P:Program) (ρ:Rho) (f es:Nat) (ch:RV):Prop:=known P f=true/\(es<16777216->Yvp P f es)/\(16777216<=es->es<33554432->Yka P f)/\(33554432<=es->(es≠33554433->Yhw P ρ f es ch)/\(es=33554433->Ypc P ρ f ch))
theorem Zy7 {f es fl n n':Nat} {ch c v:RV} {h h':HT} (hI:Yeg P ρ f es ch) (hgf:g<=fl) (hf:fl<=n) (e:Yd5 es ch c fl h n=.ok v h' n') :
  Ab fl h n h' n'/\∀ (m:Mp) (w:World) (vs:List Value),Sim P ρ m g h w->Zbg ρ m c vs->Fresh n n' m->Calls P f vs.toArray w (fun e w'=>∃ u m',e=.returned u/\Tr P ρ g fl h n m w h' n' m' w'/\den ρ m' v u):=by
 rcases Za0 e with⟨hz,e1⟩ | ⟨hz,e1⟩
 ·exact Yhg (hI.2.2.2 (Zam hz)).1 (hI.2.2.2 (Zam hz)).2 e1
 have hlt:es<33554432:=by
  rcases Nat.lt_or_ge es 33554432 with p | p
  ·exact p
  ·rw[Zgv p] at hz;cases hz
 rcases Za0 e1 with⟨hz,e1⟩ | ⟨hz,e1⟩
 ·obtain⟨h1,h2⟩:=Ybg (ρ:=ρ) (g:=g) (fl:=fl) (hI.2.2.1 (Zam hz) hlt) e1
  exact⟨h1,fun m w vs s hd _=>h2 m w vs s hd⟩
 ·exact Ygk (ρ:=ρ) (hI.2.1 (by
   rcases Nat.lt_or_ge es 16777216 with p | p
   ·exact p
   ·rw[Zgv p] at hz;cases hz)) hgf hf e1
def Yr5 (P:Program) (ρ:Rho) (f:Nat) (c:RV) (ch:RV):Prop:=0<P.globals.size/\known P f=true/\∀ (m:Mp) (w:World) (vs us:List Value) (C:Array Value) (el:TypeId) (fr:Nat×Nat),Zbg ρ m c vs->w.heap[0]?=some (.cells C el fr)->Zbg ρ m ch us->(∀ (j:Nat) (u:Value),us[j]?=some u->C[j]?=some u) ->
 Calls P f vs.toArray w (fun e w'=>e=.returned (.bool true)/\Old w w')
def Yhu (P:Program) (ρ:Rho) (kc:Kc):Prop:=∀ f c q,kc f c=some q->(q.1<16777216->Yr5 P ρ f c q.2)/\(16777216<=q.1->Yeg P ρ f (q.1-16777216) q.2)
theorem Zfy (hy:YsOk ρ ys) (fs:Nat->Option RF) (hfs:∀ f r,fs f=some r->Zas P f=some r) {orc:Nat->RV->Option RV} (ho:Zpo P ρ orc) {kc:Kc} (hk:Yhu P ρ kc):∀ deep,ClOk P ρ g (Zcc ys fs orc kc deep)
 | 0=>fun f c fl h n v h' n' e _ _=>by cases e
 | deep+1=>fun f c fl h n v h' n' e hgf hf=>by
  have ih:=Zfy hy fs hfs ho hk deep
  have ek:gO (gO (gO (SR.bad [92,f]) (fs f) fun r=>Zuh ys (Zcc ys fs orc kc deep) f r c fl h n) (orc f c) (fun v=>.ok v h n)) (kc f c) (fun q=>bf (Nat.ble 16777216 q.1) (Yd5 (Nat.sub q.1 16777216) q.2 c fl h n) (Yjz h n q.1 q.2))=.ok v h' n':=e
  rcases Znw ek with⟨q,h1,h2⟩ | ⟨_,e0⟩
  ·obtain⟨hk1,hk2⟩:=hk f c q h1
   rcases Za0 h2 with⟨hz,h2⟩ | ⟨hz,h2⟩
   ·have hI:=hk2 (Zam hz)
    obtain⟨hab,hc⟩:=Zy7 (ρ:=ρ) hI hgf hf h2
    exact⟨hab,fun _=>⟨hI.1,fun m w vs s _ hd hfr=>hc m w vs s hd hfr⟩,fun q=>absurd (Zjm hI.1) (Nat.not_lt_of_le q)⟩
   obtain⟨hgl,k1,k2⟩:=hk1 (by
    rcases Nat.lt_or_ge q.1 16777216 with p | p
    ·exact p
    ·rw[Zgv p] at hz;cases hz)
   have e2:gK (SR.bad [160]) (hg h 0) (fun cs _=>nU (.bad [161]) (rd cs q.1 0) fun r=>bf (eqV r q.2) (.ok (.b true) h n) (.bad [162]))=.ok v h' n':=h2
   obtain⟨cs,z,hb,e3⟩:=Zg5 e2 (by simp)
   have hmz:=Zk1 e2 (by simp) hb
   obtain⟨hu,e4⟩:=Za4 e3 (by simp)
   obtain⟨he,e5⟩:=Zad e4 (by simp)
   cases e5
   refine⟨Ab.refl _ _ _,fun _=>⟨k1,fun m w vs s gl hd _=>?_⟩,fun q=>absurd (Zjm k1) (Nat.not_lt_of_le q)⟩
   obtain⟨Z,hz⟩:=gl 0 hgl
   obtain⟨B',O',Z',C,el,fr,q1,q2,q3,hcl⟩:=Zvd s hb hmz
   rw[hz] at q1
   cases q1
   obtain⟨_,us,hl,hd2,hc,hj⟩:=Zt9 q3 q.1 0 hu
   rw[Zj6 _ _ he] at hd2
   refine(k2 m w vs us C el fr hd q2 hd2 (fun j u hju=>by have:=hj j u hju;simpa using this)).mono ?_
   rintro e w' ⟨rfl,o⟩
   exact⟨_,m,rfl,Tr.old s o,rfl⟩
  rcases Znw e0 with⟨u,h1,h2⟩ | ⟨_,e1⟩
  ·cases h2
   obtain⟨k1,k2⟩:=ho f c v h1
   refine⟨Ab.refl _ _ _,fun _=>⟨k1,fun m w vs s _ hd _=>(k2 m w vs hd).mono ?_⟩,fun q=>absurd (Zjm k1) (Nat.not_lt_of_le q)⟩
   rintro e w' ⟨u,rfl,o,hu⟩
   exact⟨u,m,rfl,Tr.old s o,hu⟩
  ·obtain⟨r,hr,e2⟩:=Za5 e1 (by simp)
   exact Yl1 hy (fun _ _ _ _ h1 h2=>Yj6 hy h1 h2) ih (hfs f r hr) hgf hf e2
def isB (r:SR):Bool:=match r with | .ok (.b true) _ _=>true | _=>false
end Go.Rn
namespace Go.Rn
variable {ρ:Rho} {P:Program}
theorem Za8:Zpo P ρ (fun _ _=>none):=fun _ _ _ h=>by cases h
end Go.Rn
