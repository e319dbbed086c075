/-
  One text of a symbolic evaluator over the model, shown sound once for every program: no statement is claimed here.
-/
import Derived.Test.YthfaoceleaaepaaGreatDoorRnZa
import Derived.Test.YthfaoceleaaepaaGreatDoorRnV
import Derived.Lib.Join
import Derived.Below
namespace Go.Rn
variable {ρ:Nat→Int} {P:Program}
variable {g fl nt:Nat} {ys:Ys} {cl:Cl'}
def lst (listed:Array Bool):Nat→Bool:=fun z=>listed.getD z false
theorem lst_set {listed:Array Bool} {i:Nat} (h:i < listed.size):lst (listed.setIfInBounds i true)=add1 (lst listed) i:=by
 funext z
 unfold lst add1
 by_cases hz:z=i
 ·subst hz; simp [h]
 ·rw [if_neg hz,getD_set_ne false (fun e=>hz e.symm)]
theorem count_set_false:∀ (l:List Bool) (i:Nat),l[i]?=some false→(l.set i true).count false + 1=l.count false
 | [],_,h=>by simp at h
 | x::l,0,h=>by
  have:x=false:=by simpa using h
  subst this
  simp
 | x::l,i + 1,h=>by
  have:=count_set_false l i (by simpa using h)
  cases x <;> simp <;> omega
section
variable {os:Array Oper} {l:List RQ} {V:Nat→FT} {H:Nat→HT} {N:Nat→Nat} {R:Nat→RV} {csF:List CK} {hsF:List HT} {bf:List Nat}
variable (D:Dw P fl nt ys cl os l V H N R csF hsF bf) (hy:YsOk ρ ys) (hcl:ClOk P ρ g cl) (hgf:g≤fl) (hf:fl≤N 0)
variable {a0:Act} {m0:Mp} {w0:World} (s0:Sim P ρ m0 g (H 0) w0) (f0:Fresh (N 0) (N l.length) m0)
include D
theorem Dw.last {S:Nat→Bool} {j:Nat} {Hc:HT} {m:Mp} {a:Act} {w:World} (I:Inv P ρ g fl nt os l V H N R a0 m0 w0 S j Hc m a w) (hS:∀ i,i < l.length→S i=true) :
  a.defers=a0.defers∧Fr P ρ m nt (V l.length) a.tmps∧Tr P ρ g fl (H 0) (N 0) m0 w0 (H l.length) (N l.length) m w:=by
 have hE:effs l l.length=j:=by
  rcases Nat.lt_or_ge j (effs l l.length) with p | p
  ·obtain ⟨e,q,h1,h2,h3,h4⟩:=effs_ex (l:=l) (j:=j) l.length (Nat.le_refl _) p
   have:=(I.ej e q h2 h3).1 (hS e h1)
   omega
  ·have:=I.je; omega
 refine ⟨I.defers,?_,I.tr.narrow fun b c z hb=>I.cov D (Nat.le_refl _) hE (fun k' q hk _ _ _ _ _=>hS k' hk) l.length (Nat.le_refl _) (by omega) c z hb⟩
 have:=I.fr
 rwa [D.ts_all l.length (Nat.le_refl _) hS] at this
theorem Dw.ready_all {listed:Array Bool} (hsz:listed.size=l.length) (hr:Region.ready .any os listed=[]):∀ n,∀ i,i < n→i < l.length→lst listed i=true:=by
 intro n
 induction n with
 | zero=>intro i h; omega
 | succ n ih=>
  intro i h1 h2
  cases hi:lst listed i with
  | true=>rfl
  | false=>
   have ho:=Array.getElem?_eq_getElem (show i < os.size by rw [← D.len]; exact h2)
   have:i ∈ Region.ready .any os listed:=by
    rw [mem_ready]
    refine ⟨?_,_,ho,fun e he hb=>?_⟩
    ·unfold lst at hi
     have hlt:i < listed.size:=by omega
     simp [hlt] at hi ⊢
     exact hi
    ·have:=back_get os.toList 0 i _ D.back (by rw [← ho]; simp) e he hb
     exact ih e.on (by omega) (by omega)
   rw [hr] at this
   cases this
include hy hcl hgf hf s0 f0
theorem Dw.any {r:Option Nat} {Q:Exit→Act→World→Prop} (hQ:∀ a' w' m',a'.defers=a0.defers→Fr P ρ m' nt (V l.length) a'.tmps→Tr P ρ g fl (H 0) (N 0) m0 w0 (H l.length) (N l.length) m' w'→Q .normal a' w') :
  ∀ (fuel:Nat) (listed:Array Bool) (j:Nat) (Hc:HT) (m:Mp) (a:Act) (w:World),Inv P ρ g fl nt os l V H N R a0 m0 w0 (lst listed) j Hc m a w→listed.size=l.length→listed.toList.count false=fuel→wpAnyIn (WF r) 0 P .any os Q fuel listed a w
 | 0,listed,j,Hc,m,a,w,I,hsz,hct=>by
  have hall:∀ i,i < l.length→lst listed i=true:=fun i hi=>by
   have hlt:i < listed.size:=by omega
   unfold lst
   have h1:=List.count_eq_zero.1 hct
   have h2:listed[i] ∈ listed.toList:=by simp
   cases hb:listed[i] with
   | true=>simp [hlt,hb]
   | false=>rw [hb] at h2; exact absurd h2 h1
  obtain ⟨d,F,T⟩:=D.last I hall
  refine ⟨?_,hQ a w m d F T⟩
  rw [List.eq_nil_iff_forall_not_mem]
  intro i hi
  rw [mem_ready] at hi
  obtain ⟨h1,o,ho,_⟩:=hi
  have hlt:i < l.length:=by rw [D.len]; exact (Array.getElem?_eq_some_iff.1 ho).1
  have h2:=hall i hlt
  unfold lst at h2
  have hlt2:i < listed.size:=by omega
  simp [hlt2] at h1 h2
  rw [h1] at h2; cases h2
 | fuel + 1,listed,j,Hc,m,a,w,I,hsz,hct=>by
  refine ⟨fun hr=>?_,fun i hi=>?_⟩
  ·obtain ⟨d,F,T⟩:=D.last I (fun i hi=>D.ready_all hsz hr (i + 1) i (by omega) hi)
   exact hQ a w m d F T
  ·rw [mem_ready] at hi
   obtain ⟨h1,o,ho,hup⟩:=hi
   have hlt:i < listed.size:=by rw [hsz,D.len]; exact (Array.getElem?_eq_some_iff.1 ho).1
   have h0:listed[i]=false:=by simpa [hlt] using h1
   refine D.next hy hcl hgf hf s0 f0 I ho (by unfold lst; simp [hlt,h0]) (fun o' ho' e he hb=>?_) fun j' Hc' m' a' w' I'=>?_
   ·have:o'=o:=by
     have h2:os.toList[i]?=some o:=by simpa using ho
     rw [h2] at ho'; cases ho'; rfl
    subst this
    exact hup e he hb
   ·refine Dw.any hQ fuel _ j' Hc' m' a' w' (by rw [lst_set hlt]; exact I') (by simpa using hsz) ?_
    have:=count_set_false listed.toList i (by simp [hlt,h0])
    rw [Array.toList_setIfInBounds]
    omega
end
theorem zip_get {α β:Type}:∀ (a:List α) (b:List β) (i:Nat) (x:α),(a.zip b).length=a.length→a[i]?=some x→∃ y,(a.zip b)[i]?=some (x,y)
 | [],_,_,_,_,h=>by simp at h
 | x::a,[],_,_,h,_=>by simp at h
 | x::a,y::b,0,z,_,h=>⟨y,by simpa using h⟩
 | x::a,y::b,i + 1,z,hl,h=>by
  obtain ⟨q,h1⟩:=zip_get a b i z (by simpa using hl) (by simpa using h)
  exact ⟨q,by simpa using h1⟩
theorem compDr0_or (P:Program) (nt:Nat) (os:Array Oper):compDr0 P nt os=[.q .no .no .nm badP] ∨ ∃ ks:List K3,compDr0 P nt os=(os.toList.zip ks).map (fun ok=>compQ P nt os ok.1 ok.2) ∧
  ((os.toList.zip ks).map (fun ok=>compQ P nt os ok.1 ok.2)).length=os.size∧backOk os.toList 0=true∧onesOk ((os.toList.zip ks).map (fun ok=>compQ P nt os ok.1 ok.2)) 0=true ∧
  pairsOk (items ((os.toList.zip ks).map (fun ok=>compQ P nt os ok.1 ok.2)) (Region.before os).toList 0 0)=true∧P.follows .mixedOrders=true:=by
 have e:compDr0 P nt os=match kinds (Region.before os).toList (those .eff (os.toList.map fun o=>cls ((compOp P nt o.op).getD badP)) 0) (those .alloc (os.toList.map fun o=>cls ((compOp P nt o.op).getD badP)) 0) (os.toList.map fun o=>cls ((compOp P nt o.op).getD badP)) 0 with
  | some ks=>if ((os.toList.zip ks).map (fun ok=>compQ P nt os ok.1 ok.2)).length=os.size∧backOk os.toList 0=true∧onesOk ((os.toList.zip ks).map (fun ok=>compQ P nt os ok.1 ok.2)) 0=true∧pairsOk (items ((os.toList.zip ks).map (fun ok=>compQ P nt os ok.1 ok.2)) (Region.before os).toList 0 0)=true∧P.follows .mixedOrders=true then (os.toList.zip ks).map (fun ok=>compQ P nt os ok.1 ok.2) else [.q .no .no .nm badP]
  | none=>[.q .no .no .nm badP]:=rfl
 rw [e]
 cases kinds (Region.before os).toList (those .eff (os.toList.map fun o=>cls ((compOp P nt o.op).getD badP)) 0) (those .alloc (os.toList.map fun o=>cls ((compOp P nt o.op).getD badP)) 0) (os.toList.map fun o=>cls ((compOp P nt o.op).getD badP)) 0 with
 | none=>exact .inl rfl
 | some ks=>
  by_cases hc:((os.toList.zip ks).map (fun ok=>compQ P nt os ok.1 ok.2)).length=os.size∧backOk os.toList 0=true∧onesOk ((os.toList.zip ks).map (fun ok=>compQ P nt os ok.1 ok.2)) 0=true∧pairsOk (items ((os.toList.zip ks).map (fun ok=>compQ P nt os ok.1 ok.2)) (Region.before os).toList 0 0)=true∧P.follows .mixedOrders=true
  ·exact .inr ⟨ks,if_pos hc,hc⟩
  ·exact .inl (if_neg hc)
/-! ### a region's operations in another order -/
section
variable {os:Array Oper} {p:List Nat}
structure IsPerm (n:Nat) (p:List Nat):Prop where
 len:p.length=n
 back:∀ i,i < n→p[p.idxOf i]?=some i
 lt:∀ k i,p[k]?=some i→i < n∧p.idxOf i=k
theorem permOk_ok {n:Nat} (h:permOk n p=true):IsPerm n p:=by
 unfold permOk at h
 simp only [Bool.and_eq_true,List.all_eq_true,List.mem_range] at h
 obtain ⟨⟨h1,h2⟩,h3⟩:=h
 have hl:p.length=n:=beq_ok h1
 refine ⟨hl,fun i hi=>?_,fun k i hk=>?_⟩
 ·have:=beq_ok (h2 i hi)
  rw [List.getD_eq_getElem?_getD] at this
  cases hq:p[p.idxOf i]? with
  | none=>rw [hq] at this; simp at this; omega
  | some j=>rw [hq] at this; simp at this; rw [this]
 ·have hlt:k < n:=by rw [← hl]; exact (List.getElem?_eq_some_iff.1 hk).1
  have:=h3 k hlt
  rw [List.getD_eq_getElem?_getD,hk,Option.getD_some] at this
  exact ⟨by have:=ble_ok this.2; omega,beq_ok this.1⟩
variable (hp:IsPerm os.size p)
include hp
theorem IsPerm.out {i:Nat} (h:os.size≤i):p.idxOf i=os.size:=by
 rw [← hp.len]
 refine List.idxOf_eq_length fun hm=>?_
 obtain ⟨k,hk⟩:=List.mem_iff_getElem?.1 hm
 have:=(hp.lt k i hk).1
 omega
theorem IsPerm.inn {i:Nat} (h:i < os.size):p.idxOf i < os.size:=by
 have:=hp.back i h
 rw [← hp.len]
 exact (List.getElem?_eq_some_iff.1 this).1
theorem perm_size:(permOs os p).size=os.size:=by unfold permOs; simp [hp.len]
theorem perm_get {i:Nat} {o:Oper} (h:os[i]?=some o):(permOs os p)[p.idxOf i]?=some (renO p o):=by
 have hi:i < os.size:=(Array.getElem?_eq_some_iff.1 h).1
 have e:os[i]! = o:=by rw [getElem!_def,h]
 unfold permOs
 simp [hp.back i hi,e]
theorem perm_got {k:Nat} {o':Oper} (h:(permOs os p)[k]?=some o'):∃ i o,p[k]?=some i∧os[i]?=some o∧o'=renO p o:=by
 unfold permOs at h
 simp at h
 obtain ⟨i,h1,h2⟩:=h
 have hi:=(hp.lt k i h1).1
 exact ⟨i,os[i],h1,by simp [hi],by rw [← h2]; simp [hi]⟩
theorem perm_yielded (tmps:Array Value) (j:Nat):yielded (permOs os p) tmps (p.idxOf j)=yielded os tmps j:=by
 unfold yielded
 cases h:os[j]? with
 | some o=>rw [perm_get hp h]; rfl
 | none=>
  have hj:os.size≤j:=by
   rcases Nat.lt_or_ge j os.size with q | q
   ·rw [Array.getElem?_eq_getElem q] at h; cases h
   ·exact q
  rw [IsPerm.out hp hj]
  have:(permOs os p)[os.size]?=none:=by
   rw [Array.getElem?_eq_none]; rw [perm_size hp]; exact Nat.le_refl _
  rw [this]
theorem perm_wanted (o:Oper) (tmps:Array Value):Region.wanted (renO p o) (yielded (permOs os p) tmps)=Region.wanted o (yielded os tmps):=by
 unfold Region.wanted renO
 cases o.guard with
 | none=>rfl
 | some g=>show (yielded (permOs os p) tmps (p.idxOf g.1) == some g.2)=_; rw [perm_yielded hp]
variable {F:Fence} {n:Nat} {P:Program} {Q:Exit→Act→World→Prop}
theorem perm_op {i:Nat} {o:Oper} (h:os[i]?=some o) {K:Act→World→Prop} {a:Act} {w:World} (hw:wpOpIn F n P (permOs os p) Q (p.idxOf i) K a w):wpOpIn F n P os Q i K a w:=by
 unfold wpOpIn at hw ⊢
 rw [perm_get hp h] at hw
 rw [h]
 dsimp only at hw ⊢
 rw [perm_wanted hp] at hw
 exact hw
def Same (os:Array Oper) (p:List Nat) (x y:Array Bool):Prop:=x.size=os.size∧y.size=os.size∧∀ i,i < os.size→y[p.idxOf i]?=x[i]?
omit hp in
theorem Same.getD {x y:Array Bool} (hp:IsPerm os.size p) (h:Same os p x y) (i:Nat) (d:Bool):y.getD (p.idxOf i) d=x.getD i d:=by
 rw [Array.getD_eq_getD_getElem?,Array.getD_eq_getD_getElem?]
 rcases Nat.lt_or_ge i os.size with q | q
 ·rw [h.2.2 i q]
 ·rw [IsPerm.out hp q,Array.getElem?_eq_none (by rw [h.2.1]; exact Nat.le_refl _),Array.getElem?_eq_none (by rw [h.1]; exact q)]
theorem perm_ready {x y:Array Bool} (h:Same os p x y) {i:Nat} (hi:i ∈ Region.ready .any os x):p.idxOf i ∈ Region.ready .any (permOs os p) y:=by
 rw [mem_ready] at hi ⊢
 obtain ⟨h1,o,ho,h2⟩:=hi
 refine ⟨by rw [h.getD hp]; exact h1,_,perm_get hp ho,fun e he hb=>?_⟩
 obtain ⟨e0,he0,rfl⟩:=Array.mem_map.1 (show e ∈ o.after.map _ from he)
 show y.getD (p.idxOf e0.on) false=true
 rw [h.getD hp]
 exact h2 e0 he0 hb
theorem perm_ready' {x y:Array Bool} (h:Same os p x y) (hr:Region.ready .any os x=[]):Region.ready .any (permOs os p) y=[]:=by
 rw [List.eq_nil_iff_forall_not_mem]
 intro k hk
 rw [mem_ready] at hk
 obtain ⟨h1,o',ho,h2⟩:=hk
 obtain ⟨i,o,hpk,hoi,rfl⟩:=perm_got hp ho
 have hik:=(hp.lt k i hpk).2
 have:i ∈ Region.ready .any os x:=by
  rw [mem_ready]
  refine ⟨by rw [← h.getD hp,hik]; exact h1,o,hoi,fun e he hb=>?_⟩
  rw [← h.getD hp]
  exact h2 { e with on:=p.idxOf e.on } (Array.mem_map.2 ⟨e,he,rfl⟩) hb
 rw [hr] at this
 cases this
theorem perm_any:∀ (fuel:Nat) (x y:Array Bool) (a:Act) (w:World),Same os p x y→wpAnyIn F n P .any (permOs os p) Q fuel y a w→wpAnyIn F n P .any os Q fuel x a w
 | 0,x,y,a,w,h,hw=>by
  refine ⟨?_,hw.2⟩
  rw [List.eq_nil_iff_forall_not_mem]
  intro i hi
  have:=perm_ready hp h hi
  rw [hw.1] at this
  cases this
 | fuel + 1,x,y,a,w,h,hw=>by
  refine ⟨fun hr=>hw.1 (perm_ready' hp h hr),fun i hi=>?_⟩
  have h1:=hw.2 _ (perm_ready hp h hi)
  rw [mem_ready] at hi
  obtain ⟨_,o,ho,_⟩:=hi
  have hlt:i < os.size:=(Array.getElem?_eq_some_iff.1 ho).1
  refine perm_op hp ho (wpOpIn_mono (fun a' w' h2=>perm_any fuel _ _ a' w' ?_ h2) h1)
  refine ⟨by simp [h.1],by simp [h.2.1],fun j hj=>?_⟩
  rw [Array.getElem?_setIfInBounds,Array.getElem?_setIfInBounds]
  by_cases e:i=j
  ·subst e
   rw [if_pos rfl,if_pos rfl,h.1,h.2.1,if_pos hlt,if_pos (IsPerm.inn hp hlt)]
  ·have e2:p.idxOf i ≠ p.idxOf j:=fun q=>e (by
    have h3:=hp.back i hlt
    have h4:=hp.back j hj
    rw [q,h4] at h3
    exact (Option.some.inj h3).symm)
   rw [if_neg e,if_neg e2]
   exact h.2.2 j hj
end
theorem dr0_ok {r:Option Nat} (hy:YsOk ρ ys) (hcl:ClOk P ρ g cl) (hgf:g≤fl) (os:Array Oper):True→BdOk r P ρ g fl nt (fun t h n=>dops ys cl fl n (compDr0 P nt os) t h n [] [h]) (fun Q a w=>P.follows .mixedOrders=true∧wpAnyIn (WF r) 0 P .any os Q os.size (Array.replicate os.size false) a { w with drawn:=w.drawn + 1 }):=by
 intro _ t h n e t' h' n' hr hf
 have hr1:brIs (dops ys cl fl n (compDr0 P nt os) t h n [] [h]) e t' h' n':=hr
 rcases dops_run (ys:=ys) (cl:=cl) (fl:=fl) (n0:=n) (compDr0 P nt os) t h n [] [h] with ⟨k,hb⟩ | ⟨t1,h1,n1,hx,hle,V,H,N,R,csF,hsF,q1,q2,q3,q4,q5,q6,q7,q8,q9,q10,q11⟩
 ·rw [hb] at hr1; exact absurd hr1 brIs_bad
 rw [hx] at hr1
 obtain ⟨rfl,rfl,rfl,rfl⟩:=brIs_nx.1 hr1
 have notBad:compDr0 P nt os ≠ [.q .no .no .nm badP]:=fun q=>by
  rcases q7.turn 0 .no .no .nm badP (by rw [q]; rfl) with ⟨h1,_⟩ | ⟨_,h1,_⟩
  ·cases h1
  ·exact step_bad h1
 have key:∃ ks,(compDr0 P nt os=(os.toList.zip ks).map fun ok=>compQ P nt os ok.1 ok.2)∧(compDr0 P nt os).length=os.size∧backOk os.toList 0=true∧onesOk (compDr0 P nt os) 0=true∧pairsOk (items (compDr0 P nt os) (Region.before os).toList 0 0)=true∧P.follows .mixedOrders=true:=by
  rcases compDr0_or P nt os with h1 | ⟨ks,h1,h2⟩
  ·exact absurd h1 notBad
  ·rw [← h1] at h2
   exact ⟨ks,h1,h2⟩
 obtain ⟨ks,k1,k2,k3,k4,k5,k6⟩:=key
 generalize hl:compDr0 P nt os=l at *
 have D:Dw P fl nt ys cl os l V H N R csF hsF (Region.before os).toList:=by
  refine ⟨k2,fun i o ho=>?_,by rw [q3]; exact q7,q8,by rw [q2]; exact q9,q11,k4,k5,k3,(before_ok os).2,by rw [q6]; exact hle⟩
  have hzl:(os.toList.zip ks).length=os.toList.length:=by
   have:=k2
   rw [k1,List.length_map] at this
   rw [this]; simp
  obtain ⟨k,hk⟩:=zip_get os.toList ks i o hzl (by simpa using ho)
  exact ⟨k,by rw [k1,List.getElem?_map,hk]; rfl⟩
 have hab:=D.ab hcl.ab hgf (by rw [q3]; exact hf) l.length (Nat.le_refl _)
 rw [q2,q3,q5,q6] at hab
 refine ⟨hab,fun a m w F s fr base mk Q hQ=>⟨k6,?_⟩⟩
 have s0:Sim P ρ m g (H 0) ({ w with drawn:=w.drawn + 1 }:World):=by rw [q2]; exact s.of_heap rfl
 have f0:Fresh (N 0) (N l.length) m:=by rw [q3,q6]; exact fr
 refine D.any hy hcl hgf (by rw [q3]; exact hf) s0 f0 (a0:=a) (m0:=m) (w0:={ w with drawn:=w.drawn + 1 }) (fun a' w' m' d' F' T'=>?_) os.size _ 0 (H 0) m a _ ?_ (by simp [k2]) (by simp)
 ·rw [q4] at F'
  rw [q2,q3,q5,q6] at T'
  have T0:Tr P ρ g fl h n m w h n m ({ w with drawn:=w.drawn + 1 }:World):=Tr.drew s
  have TT:=T0.trans T' (Nat.le_refl _) hab.le
  exact hQ a' w' m' (by rw [d']; exact mk.next TT) F' TT
 ·have hno:lst (Array.replicate os.size false)=fun _=>false:=by
   funext z
   unfold lst
   simp [Array.getD_eq_getD_getElem?,Array.getElem?_replicate]
   split <;> rfl
  rw [hno]
  have hts:∀ i,ts l (V 0) R (fun _=>false) i=V 0:=by
   intro i
   induction i with
   | zero=>rfl
   | succ i ih=>show (if false=true then _ else ts l (V 0) R (fun _=>false) i)=_; rw [if_neg (by simp),ih]
  refine ⟨fun z hz=>(by cases hz),rfl,by rw [hts,q1]; exact F,?_,Nat.zero_le _,fun i q hq he=>⟨fun h=>(by cases h),fun h=>by omega⟩,fun x hx b c z hb=>?_,fun k q _ _ h=>(by cases h),fun k hk _=>?_⟩
  ·refine ⟨s0,Ext.refl _ _ _,Keep.refl _ _ _ _,fun b c z B O Z h1 h2 h3=>.inr ⟨b,c,z,O,Z,h1,h2,h3⟩⟩
  ·rcases hx with ⟨rfl,_⟩ | ⟨e,q,_,_,_,h3⟩
   ·exact hb
   ·omega
  ·intro b h1 h2
   have m1:=D.mono hcl.ab hgf (by rw [q3]; exact hf) (i:=0) k (Nat.zero_le _) (by omega)
   have m2:=D.mono hcl.ab hgf (by rw [q3]; exact hf) (i:=k + 1) l.length hk (Nat.le_refl _)
   exact f0 b (by omega) (by omega)
theorem dr_ok {r:Option Nat} (hy:YsOk ρ ys) (hcl:ClOk P ρ g cl) (hgf:g≤fl):DrOk r P ρ g fl nt ys cl:=by
 intro id os
 have key:compDr P nt os=compDr0 P nt os ∨ ∃ p,IsPerm os.size p∧compDr P nt os=compDr0 P nt (permOs os p):=by
  have e:compDr P nt os=if isBadL (compDr0 P nt os) then (if permOk os.size (permOf P nt os) then compDr0 P nt (permOs os (permOf P nt os)) else compDr0 P nt os) else compDr0 P nt os:=rfl
  rw [e]
  split
  ·split
   ·rename_i h; exact .inr ⟨_,permOk_ok h,rfl⟩
   ·exact .inl rfl
  ·exact .inl rfl
 rcases key with e | ⟨p,hp,e⟩
 ·rw [e]
  intro t h n e t' h' n' hr hf
  obtain ⟨h1,h2⟩:=dr0_ok (r:=r) (nt:=nt) hy hcl hgf os trivial t h n e t' h' n' hr hf
  exact ⟨h1,fun a m w F s fr base mk Q hQ=>(fun ⟨h3,h4⟩=>wpIn_region_any h3 h4) (h2 a m w F s fr base mk Q hQ)⟩
 ·rw [e]
  intro t h n e t' h' n' hr hf
  obtain ⟨h1,h2⟩:=dr0_ok (r:=r) (nt:=nt) hy hcl hgf (permOs os p) trivial t h n e t' h' n' hr hf
  refine ⟨h1,fun a m w F s fr base mk Q hQ=>(fun ⟨h3,h4⟩=>wpIn_region_any h3 ?_) (h2 a m w F s fr base mk Q hQ)⟩
  rw [perm_size hp] at h4
  refine perm_any hp _ _ _ _ _ ⟨by simp,by simp,fun i hi=>?_⟩ h4
  rw [Array.getElem?_replicate,Array.getElem?_replicate,if_pos hi,if_pos (IsPerm.inn hp hi)]
end Go.Rn
namespace Go.Rn
variable {ρ:Nat→Int} {P:Program}
variable {g:Nat} {ys:Ys}
abbrev Kc:=Nat→RV→Option (Nat × RV)
noncomputable def kcChk (h:HT) (n z:Nat) (ch:RV):SR:=gK (.bad [160]) (hg h 0) fun cs _=>nU (.bad [161]) (rd cs z 0) fun r=>bf (eqV r ch) (.ok (.b true) h n) (.bad [162])
noncomputable def callX (ys:Ys) (fs:Nat→Option RF) (orc:Nat→RV→Option RV) (kc:Kc) (deep:Nat):Cl':=
 @Nat.rec (fun _=>Cl') (fun _ _ _ _ _=>.bad [91]) (fun _ ih f a fl h n=>gO (gO (gO (.bad [92,f]) (fs f) fun r=>callF ys ih f r a fl h n) (orc f a) fun v=>.ok v h n) (kc f a) fun q=>bf (Nat.ble 16777216 q.1) (toldX ys (Nat.sub q.1 16777216) q.2 a fl h n) (kcChk h n q.1 q.2)) deep
structure Old (w w':World):Prop where
 os:w'.os=w.os
 tape:w'.tape=w.tape
 output:w'.output=w.output
 size:w.heap.size≤w'.heap.size
 block:∀ k,k < w.heap.size→w'.heap[k]?=w.heap[k]?
theorem Old.refl (w:World):Old w w:=⟨rfl,rfl,rfl,Nat.le_refl _,fun _ _=>rfl⟩
theorem Old.below {w w':World} (o:Old w w'):Go.RowKit.Below w.heap.size w w':=⟨o.os,o.tape,o.output,o.size,o.block⟩
def OrcOk (P:Program) (ρ:Nat→Int) (orc:Nat→RV→Option RV):Prop:=∀ f c v,orc f c=some v→known P f=true∧∀ (m:Mp) (w:World) (vs:List Value),denC ρ m c vs→Calls P f vs.toArray w (fun e w'=>∃ u,e=.returned u∧Old w w'∧den ρ m v u)
theorem Tr.old {fl n:Nat} {h:HT} {m:Mp} {w w':World} (s:Sim P ρ m g h w) (o:Old w w'):Tr P ρ g fl h n m w h n m w':=by
 refine ⟨⟨fun b c z hb=>?_,s.inj⟩,Ext.refl _ _ _,⟨o.os,o.tape,o.output,o.size,fun k hk _=>o.block k hk,fun k r h=>⟨r,(o.block k (Array.getElem?_eq_some_iff.1 h).1).trans h⟩⟩,fun b c z B O Z h1 h2 h3=>.inr ⟨b,c,z,O,Z,h1,h2,h3⟩⟩
 obtain ⟨B,O,Z,q1,q2⟩:=s.cell b c z hb
 exact ⟨B,O,Z,q1,q2.move (o.block B (s.lt hb q1)) (Le.refl _)⟩
def InsC (P:Program) (f es:Nat):Prop:=known P f=true∧0 < es∧es < 1048576∧∀ (w:World) (B O n c i Bv Ov m vc:Nat) (C Cv:Array Value) (el elv:TypeId) (o1 o2 vs:List Value),
 w.heap[B]?=some (.cells C el (0,0))→w.heap[Bv]?=some (.cells Cv elv (0,0))→B ≠ Bv→O + c * es=C.size→n≤c→i < n→0 < m→n≤65536→m≤65536→o1.length=i * es→o2.length=(n - i) * es→vs.length=m * es →
 (∀ (j:Nat) (u:Value),o1[j]?=some u→C[O + j]?=some u)→(∀ (j:Nat) (u:Value),o2[j]?=some u→C[O + i * es + j]?=some u)→(∀ (j:Nat) (u:Value),vs[j]?=some u→Cv[Ov + j]?=some u)→(∀ x ∈ o1 ++ (vs ++ o2),Cell x) →
 Calls P f #[.slice (some ⟨B,O,none⟩) n c,.int .i64 i,.slice (some ⟨Bv,Ov,none⟩) m vc] w fun e w'=>∃ B' O' c' C' el',e=.returned (.slice (some ⟨B',O',none⟩) (n + m) c')∧n + m≤c'∧O' + c' * es=C'.size∧w'.heap[B']?=some (.cells C' el' (0,0))∧(B'=B ∨ w.heap.size≤B') ∧
  (∀ (j:Nat) (u:Value),(o1 ++ (vs ++ o2))[j]?=some u→C'[O' + j]?=some u)∧w'.os=w.os∧w'.tape=w.tape∧w'.output=w.output∧w.heap.size≤w'.heap.size∧∀ k,k < w.heap.size→k ≠ B→w'.heap[k]?=w.heap[k]?
theorem rowCells_own {h:HT} {m:Mp} {w:World} (s:Sim P ρ m g h w) {es b k q:Nat} {r:RV} (e:rowCells h es b k q=r) (hr:r ≠ .un) (h0:0 < q) (hgb:g≤b):∃ c z B O Z C el cs,hg h b=.bk c z∧m b=some (B,O,Z)∧w.heap[B]?=some (.cells C el (0,0))∧C.size=Z∧chLen r=some (q * es) ∧
  cs.length=q * es∧denC ρ m r cs∧(∀ x ∈ cs,Cell x)∧∀ (j:Nat) (u:Value),cs[j]?=some u→C[O + k + j]?=some u:=by
 unfold rowCells at e
 rcases bf_or e with ⟨h1,_⟩ | ⟨_,e2⟩
 ·have:=beq_ok h1; omega
 ·obtain ⟨c,z,hb,e3⟩:=gK_ok e2 hr.symm
  obtain ⟨B,O,Z,C,el,fr,h1,h2,h3,hfr,_,h6⟩:=s.cells b c z hb (gK_mz e2 hr.symm hb)
  obtain rfl:=hfr (.inl hgb)
  have e4:rd c (q * es) k=r:=e3
  obtain ⟨g1,cs,g2,g3,g4,g5⟩:=rd_ok h6 (q * es) k (by rw [e4]; exact hr)
  rw [e4] at g1 g3
  exact ⟨c,z,B,O,Z,C,el,cs,hb,h1,h2,h3,g1,g2,g3,g4,g5⟩
theorem insX_ok {f es fl n n':Nat} {c v:RV} {h h':HT} (hI:InsC P f es) (hgf:g≤fl) (hf:fl≤n) (e:insX es c fl h n=.ok v h' n') :
  Ab fl h n h' n'∧∀ (m:Mp) (w:World) (vs:List Value),Sim P ρ m g h w→denC ρ m c vs→Fresh n n' m→Calls P f vs.toArray w (fun e w'=>∃ u m',e=.returned u∧Tr P ρ g fl h n m w h' n' m' w'∧den ρ m' v u):=by
 obtain ⟨_,hes0,hes1,hI⟩:=hI
 unfold insX at e
 rcases gN_ok e (by simp) with ⟨_,e1⟩ | ⟨x,r,rfl,e1⟩
 ·cases e1
 rcases gN_ok e1 (by simp) with ⟨_,e2⟩ | ⟨iv,r,rfl,e2⟩
 ·cases e2
 rcases gN_ok e2 (by simp) with ⟨_,e3⟩ | ⟨y,r,rfl,e3⟩
 ·cases e3
 rcases gN_ok e3 (by simp) with ⟨rfl,e4⟩ | ⟨_,_,_,e4⟩
 case inr=>cases e4
 rcases gL_ok e4 (by simp) with ⟨_,e5⟩ | ⟨_,_,_,_,_,e5⟩ | ⟨b,o,l,ee,rfl,e5⟩ | ⟨_,_,_,e5⟩
 ·cases e5
 ·cases e5
 case inr.inr.inr=>cases e5
 obtain ⟨j,z,rfl,e6⟩:=gI_ok e5 (by simp)
 obtain ⟨h64,e7⟩:=bf_ok e6 (by simp)
 obtain ⟨hnn,e8⟩:=bf_ok e7 (by simp)
 have hj:j=.i64:=by cases j <;> first | rfl | cases h64
 subst hj
 cases z with
 | negSucc z=>cases hnn
 | ofNat i=>
  rcases gL_ok e8 (by simp) with ⟨_,e9⟩ | ⟨vb,vo,q,vc,rfl,e9⟩ | ⟨_,_,_,_,_,e9⟩ | ⟨_,_,_,e9⟩
  ·cases e9
  case inr.inr.inl=>cases e9
  case inr.inr.inr=>cases e9
  obtain ⟨hok,e10⟩:=bf_ok e9 (by simp)
  have hok:insOk fl es b l ee vb q i=true:=hok
  have e:insY es b o l vb vo q i h n=.ok v h' n':=e10
  unfold insOk at hok
  obtain ⟨k1,hok⟩:=bf_ok hok (by simp)
  obtain ⟨k2,hok⟩:=bf_ok hok (by simp)
  obtain ⟨k3,hok⟩:=bf_ok hok (by simp)
  rcases bf_or hok with ⟨_,hok⟩ | ⟨k4,hok⟩
  ·cases hok
  obtain ⟨k5,hok⟩:=bf_ok hok (by simp)
  obtain ⟨k6,hok⟩:=bf_ok hok (by simp)
  obtain ⟨k7,k8⟩:=bf_ok hok (by simp)
  have k1:ee % 1048576=es:=beq_ok k1
  have k2:=ble_ok k2
  have k3:=ble_ok k3
  have k4:b ≠ vb:=fun q=>by subst q; simp at k4
  have k5:=ble_ok k5
  have k6:=ble_ok k6
  have k7:=ble_ok k7
  have k8:=ble_ok k8
  unfold insY at e
  obtain ⟨hu,e⟩:=nU_ok e (by simp)
  unfold growC at e
  obtain ⟨hu2,e⟩:=nU_ok e (by simp)
  obtain ⟨hv,hn',hh',hmz⟩:=newBlk_ok e
  have hab0:Ab fl h n (hst h .no b) n:=Ab.set _ k2 (fun _ _ p=>by cases p)
  refine ⟨by rw [hn',hh']; exact hab0.trans (Ab.new _ hf),fun m w vs0 s hd hfr=>?_⟩
  obtain ⟨xv,_,rfl,dx,d1⟩:=denC_cons.1 hd
  obtain ⟨ivv,_,rfl,di,d2⟩:=denC_cons.1 d1
  obtain ⟨yv,_,rfl,dy,d3⟩:=denC_cons.1 d2
  obtain rfl:=denC_nil.1 d3
  have di:ivv=.int .i64 (i:Int):=di
  subst di
  have hr1:rowCells h es vb vo q ≠ .un:=fun p=>hu (by rw [p]; rfl)
  have hr2:rowCells h es b (Nat.add o (Nat.mul i es)) (Nat.sub l i) ≠ .un:=fun p=>hu (by rw [p]; exact chApp_un _)
  obtain ⟨cv,zv,Bv,Ov,Zv,Cv,elv,vs,p1,p2,p3,p4,p5,p6,p7,p8,p9⟩:=rowCells_own s rfl hr1 k6 (Nat.le_trans hgf k3)
  obtain ⟨c0,z0,B,O,Z,C,el,o2,q1,q2,q3,q4,q5,q6,q7,q8,q9⟩:=rowCells_own s rfl hr2 (by show 0 < l - i; omega) (Nat.le_trans hgf k2)
  obtain ⟨o1,r5,r6,r7,r8,r9⟩:∃ o1:List Value,chLen (rowCells h es b o i)=some (i * es)∧o1.length=i * es∧denC ρ m (rowCells h es b o i) o1∧(∀ x ∈ o1,Cell x)∧∀ (j:Nat) (u:Value),o1[j]?=some u→C[O + o + j]?=some u:=by
   rcases Nat.eq_zero_or_pos i with p0 | p0
   ·subst p0
    refine ⟨[],?_,by simp,denC_nil.2 rfl,by simp,by simp⟩
    show some 0=_
    rw [Nat.zero_mul]
   ·have hr3:rowCells h es b o i ≠ .un:=fun p=>hu2 (by rw [p]; rfl)
    obtain ⟨c1,z1,B1,O1,Z1,C1,el1,o1,t1,t2,t3,t4,t5,t6,t7,t8,t9⟩:=rowCells_own s rfl hr3 p0 (Nat.le_trans hgf k2)
    rw [q2] at t2
    cases t2
    rw [q3] at t3
    cases t3
    exact ⟨o1,t5,t6,t7,t8,t9⟩
  obtain ⟨B2,O2,Z2,c2,y1,y2,y3,rfl⟩:=dx
  rw [q2] at y1
  cases y1
  obtain ⟨B3,O3,Z3,x1,x2,rfl⟩:=dy
  rw [p2] at x1
  cases x1
  have hBB:B ≠ Bv:=fun e=>by
   subst e
   exact k4 (s.inj' q1 p1 q2 p2 (.inl (Nat.le_trans hgf k2)))
  obtain ⟨u1,u2⟩:=chApp_len q5 _ p5
  obtain ⟨u3,u4⟩:=chApp_len u2 _ r5
  have w1:=chApp_ok q7 vs hu p7
  have w2:=chApp_ok w1 o1 hu2 r7
  have hall:∀ x ∈ o1 ++ (vs ++ o2),Cell x:=fun x hx=>(List.mem_append.1 hx).elim (r8 x) fun hx=>(List.mem_append.1 hx).elim (p8 x) (q8 x)
  have hlen:i * es + (q * es + Nat.sub l i * es)=Nat.mul (Nat.add i (Nat.add (Nat.sub l i) q)) es:=by
   show i * es + (q * es + (l - i) * es)=(i + ((l - i) + q)) * es
   rw [Nat.add_mul,Nat.add_mul]
   omega
  rw [hlen] at u4
  rw [k1] at y3
  have hn:=hfr n (Nat.le_refl _) (by omega)
  refine (hI w B (O + o) l c2 i Bv (Ov + vo) q vc C Cv el elv o1 o2 vs q3 p3 hBB (by omega) (by omega) (by omega) k6 k7 k8 r6 q6 p6 r9 (fun j u hj=>by
   have:=q9 j u hj
   rwa [show O + Nat.add o (Nat.mul i es) + j=O + o + i * es + j by show O + (o + i * es) + j=_; omega] at this) p9 hall).mono ?_
  rintro e w' ⟨B',O',c',C',el',rfl,f1,f2,f3,f4,f5,f6,f7,f8,f9,f10⟩
  have hkn:=knows_lay (C:=C') (O:=O') u4 w2 hall f5
  refine ⟨_,upd m n (B',O',C'.size),rfl,?_,?_⟩
  ·rw [hh',hn']
   exact Tr.anew s q1 (Nat.le_trans hgf k2) k2 q2 q3 hn f3 f4 f6 f7 f8 f9 f10 hmz hkn.1 (hkn.2.le (upd_le hn))
  ·rw [hv]
   have hnum:Nat.add i (Nat.add (Nat.sub l i) q)=l + q:=by show i + ((l - i) + q)=l + q; omega
   refine ⟨B',O',C'.size,c',upd_self _ _,?_,?_,by rw [hnum]; rfl⟩
   ·rw [hnum,Nat.div_eq_of_lt hes1]; omega
   ·rw [Nat.mod_eq_of_lt hes1]; omega
/-! strings.Join -/
def JoinC (P:Program) (f:Nat):Prop:=known P f=true∧∀ (w:World) (B O c:Nat) (xs:List ByteArray) (sep:ByteArray),B < w.heap.size→(∀ (j:Nat) (x:ByteArray),xs[j]?=some x→w.cell? ⟨B,O + j,none⟩=some (.string x))→2≤xs.length→xs.length≤65536→xs.length≤c →
 (Lib.join (xs.map (·.data.toList)) sep.data.toList).length≤1048576→Calls P f #[.slice (some ⟨B,O,none⟩) xs.length c,.string sep] w fun e w'=>e=.returned (.string ⟨(Lib.join (xs.map (·.data.toList)) sep.data.toList).toArray⟩)∧Old w w'
def strV (l:List Nat):ByteArray:=⟨(l.map UInt8.ofNat).toArray⟩
theorem joinL_ok {m:Mp} {sep:List Nat}:∀ {c:RV} {us:List Value} {l:List Nat},joinL sep c=some l→denC ρ m c us→∃ xs:List (List Nat),us=xs.map (fun x=>Value.string (strV x))∧(∀ x ∈ xs,∀ b ∈ x,b < 256)∧l.map UInt8.ofNat=Lib.join (xs.map (fun x=>x.map UInt8.ofNat)) (sep.map UInt8.ofNat)∧((∀ b ∈ sep,b < 256)→∀ b ∈ l,b < 256):=by
 intro c
 induction c with
 | nil=>
  intro us l h hd
  have h':some []=some l:=h
  cases h'
  exact ⟨[],denC_nil.1 hd,(fun _ h=>absurd h List.not_mem_nil),rfl,(fun _ _ h=>absurd h List.not_mem_nil)⟩
 | cons x t _ ih=>
  intro us l h hd
  have h':gS none x (fun q=>gN none t (some q) fun _ _=>gO none (joinL sep t) fun r=>some (q ++ (sep ++ r)))=some l:=h
  obtain ⟨q,rfl,h1⟩:=gS_ok h' (by simp)
  obtain ⟨u,us',rfl,h2,h3⟩:=denC_cons.1 hd
  obtain ⟨rfl,hq⟩:u=.string (strV q)∧∀ x ∈ q,x < 256:=h2
  rcases gN_ok h1 (by simp) with ⟨rfl,h4⟩ | ⟨a,b,rfl,h4⟩
  ·cases h4
   have:=denC_nil.1 h3
   subst this
   exact ⟨[l],rfl,(fun x hx=>by rw [List.mem_singleton.1 hx]; exact hq),(Lib.join_one _ _).symm,fun _=>hq⟩
  ·obtain ⟨r,h5,h6⟩:=gO_ok h4 (by simp)
   cases h6
   obtain ⟨xs,rfl,h7,h8,h9⟩:=ih h5 h3
   refine ⟨q::xs,rfl,fun x hx=>?_,?_,fun hs b hb=>?_⟩
   ·rcases List.mem_cons.1 hx with rfl | hx
    ·exact hq
    ·exact h7 x hx
   ·cases xs with
    | nil=>
     obtain ⟨_,_,h10,_,_⟩:=denC_cons.1 h3
     cases h10
    | cons y ys=>
     rw [List.map_cons,Lib.join_cons]
     rw [List.map_cons,Lib.join_cons] at h8
     rw [List.map_cons,List.map_append,List.map_append,h8]
     simp [Lib.joinTail]
   ·rcases List.mem_append.1 hb with hb | hb
    ·exact hq b hb
    ·rcases List.mem_append.1 hb with hb | hb
     ·exact hs b hb
     ·exact h9 hs b hb
 | _=>intro us l h; cases h
theorem strV_data (x:List Nat):(strV x).data.toList=x.map UInt8.ofNat:=by simp [strV]
theorem joinX_ok {f fl n n':Nat} {c v:RV} {h h':HT} (hJ:JoinC P f) (e:joinX c h n=.ok v h' n') :
  Ab fl h n h' n'∧∀ (m:Mp) (w:World) (vs:List Value),Sim P ρ m g h w→denC ρ m c vs→Calls P f vs.toArray w (fun e w'=>∃ u m',e=.returned u∧Tr P ρ g fl h n m w h' n' m' w'∧den ρ m' v u):=by
 obtain ⟨_,hJ⟩:=hJ
 unfold joinX at e
 rcases gN_ok e (by simp) with ⟨_,e1⟩ | ⟨x,r,rfl,e1⟩
 ·cases e1
 rcases gN_ok e1 (by simp) with ⟨_,e2⟩ | ⟨y,r,rfl,e2⟩
 ·cases e2
 rcases gN_ok e2 (by simp) with ⟨rfl,e3⟩ | ⟨_,_,_,e3⟩
 case inr=>cases e3
 obtain ⟨q,hq,e4⟩:=gO_ok e3 (by simp)
 obtain ⟨hqq,e5⟩:=bf_ok e4 (by simp)
 obtain ⟨hq1,hq2⟩:=bf_ok hqq (by simp)
 have hq1:=Nat.le_of_ble_eq_true hq1
 have hq2:=Nat.le_of_ble_eq_true hq2
 obtain ⟨sep,rfl,e6⟩:=gS_ok e5 (by simp)
 obtain ⟨hcu,e7⟩:=nU_ok e6 (by simp)
 obtain ⟨l,hl,e8⟩:=gO_ok e7 (by simp)
 obtain ⟨hll,e9⟩:=bf_ok e8 (by simp)
 have hll:=Nat.le_of_ble_eq_true hll
 cases e9
 refine ⟨Ab.refl _ _ _,fun m w vs s hd=>?_⟩
 obtain ⟨u,us,rfl,d1,d2⟩:=denC_cons.1 hd
 obtain ⟨u2,us2,rfl,d3,d4⟩:=denC_cons.1 d2
 have:=denC_nil.1 d4
 subst this
 obtain ⟨rfl,hsep⟩:u2=.string (strV sep)∧∀ x ∈ sep,x < 256:=d3
 have key:∃ (b k:Nat),rowCells h 1 b k q ≠ .un∧slCells h 1 x q=rowCells h 1 b k q∧∃ B O Z c,m b=some (B,O,Z)∧q≤c∧u=.slice (some ⟨B,O + k,none⟩) q c:=by
  rcases gL_ok (rfl:slCells h 1 x q=slCells h 1 x q) (Ne.symm hcu) with ⟨rfl,e2⟩ | ⟨b,k,l,c,rfl,e2⟩ | ⟨b,k,l,f,rfl,e2⟩ | ⟨b,f,rfl,e2⟩
  ·cases hq; omega
  ·obtain ⟨_,e3⟩:=bf_ok e2 (Ne.symm hcu)
   obtain ⟨B',O',Z',hm,hle,hx⟩:=d1
   cases hq
   exact ⟨b,k,by rw [e3]; exact hcu,e3.symm,B',O',Z',c,hm,hle,hx⟩
  ·obtain ⟨_,e3⟩:=bf_ok e2 (Ne.symm hcu)
   obtain ⟨B',O',Z',cc,hm,hle,_,hx⟩:=d1
   cases hq
   exact ⟨b,k,by rw [e3]; exact hcu,e3.symm,B',O',Z',cc,hm,by omega,hx⟩
  ·cases hq; omega
 obtain ⟨b,k,hru,hrow,B,O,Z,cap,hm,hcap,rfl⟩:=key
 obtain ⟨c',z,B',O',Z',C,el,fr,cs,g1,g2,g3,g4,g5,g6,g7,g8,g9⟩:=rowCells_ok s rfl hru (by omega)
 rw [hm] at g2
 cases g2
 rw [hrow] at hl
 obtain ⟨xs,rfl,hxs,hjl,hby⟩:=joinL_ok hl g7
 rw [List.length_map,Nat.mul_one] at g6
 have hB:B < w.heap.size:=by
  rcases Nat.lt_or_ge B w.heap.size with p | p
  ·exact p
  ·rw [Array.getElem?_eq_none p] at g3; cases g3
 have hmap:(xs.map strV).map (fun x=>x.data.toList)=xs.map (fun x=>x.map UInt8.ofNat):=by
  rw [List.map_map]
  exact List.map_congr_left fun x _=>strV_data x
 have hj:=hJ w B (O + k) cap (xs.map strV) (strV sep) hB (fun j x hj=>by
  rw [cell_at g3]
  refine g9 j _ ?_
  rw [List.getElem?_map] at hj ⊢
  obtain ⟨a,ha,rfl⟩:=Option.map_eq_some_iff.1 hj
  rw [ha]; rfl) (by rw [List.length_map,g6]; omega) (by rw [List.length_map,g6]; omega) (by rw [List.length_map,g6]; exact hcap) (by
  rw [hmap,strV_data,← hjl,List.length_map]; exact hll)
 rw [hmap,strV_data,← hjl,List.length_map,g6] at hj
 refine hj.mono ?_
 rintro e w' ⟨rfl,o⟩
 exact ⟨_,m,rfl,Tr.old s o,rfl,hby hsep⟩
/-! errors.Is -/
def IsC (P:Program) (f tr tp:Nat):Prop:=∀ (w:World) (A O B1 O1 B2 O2:Nat) (C C1 C2:Array Value) (el t1 t2:TypeId) (fr:Nat × Nat),w.heap[A]?=some (.cells C el fr)→C[O + 1]?=some (.iface tp (.pointer (some ⟨B1,O1,none⟩))) →
 w.heap[B1]?=some (.cells C1 t1 (0,0))→w.heap[B2]?=some (.cells C2 t2 (0,0))→B1 ≠ B2 ∨ O1 ≠ O2→Calls P f #[.iface tr (.pointer (some ⟨A,O,none⟩)),.iface tp (.pointer (some ⟨B2,O2,none⟩))] w fun e w'=>e=.returned (.bool false)∧Old w w'
theorem isA_ok {t:Nat} {v:RV} {k:Nat→Nat→SR} {u:RV} {h':HT} {n':Nat} (e:isA t v k=.ok u h' n'):∃ b o,k b o=.ok u h' n'∧∀ (ρ:Nat→Int) (m:Mp) (x:Value),den ρ m v x→∃ B O Z,m b=some (B,O,Z)∧x=.iface t (.pointer (some ⟨B,O + o,none⟩)):=by
 unfold isA at e
 obtain ⟨f,hf,e1⟩:=gIf_ok e
 rcases e1 with ⟨_,e2⟩ | ⟨y,rfl,e2⟩
 ·cases e2
 obtain ⟨hb,e3⟩:=bf_ok e2 (by simp)
 obtain rfl:=Nat.eq_of_beq_eq_true hb
 obtain ⟨b,o,rfl,e4⟩:=gP_ok e3 (by simp)
 refine ⟨b,o,e4,fun ρ m x hx=>?_⟩
 obtain ⟨cs,h1,rfl⟩:=hx
 obtain ⟨c0,r0,rfl,d0,d1⟩:=denC_cons.1 h1
 obtain ⟨c1,r1,rfl,d2,d3⟩:=denC_cons.1 d1
 obtain ⟨B,O,Z,hm,rfl⟩:=d2
 have d0:c0=.tuple #[]:=d0
 subst d0
 refine ⟨B,O,Z,hm,?_⟩
 show fnV (33554432 + t) _=_
 rw [fnV_if (by omega),Nat.add_sub_cancel_left]
theorem isX_ok {f fl n n':Nat} {ch c v:RV} {h h':HT} (hI:∀ tr tp,ch=.p tr tp→IsC P f tr tp) (e:isX ch c h n=.ok v h' n') :
  Ab fl h n h' n'∧∀ (m:Mp) (w:World) (vs:List Value),Sim P ρ m g h w→denC ρ m c vs→Calls P f vs.toArray w (fun e w'=>∃ u m',e=.returned u∧Tr P ρ g fl h n m w h' n' m' w'∧den ρ m' v u):=by
 unfold isX at e
 obtain ⟨tr,tp,rfl,e⟩:=gP_ok e (by simp)
 rcases gN_ok e (by simp) with ⟨_,e1⟩ | ⟨x,r,rfl,e1⟩
 ·cases e1
 rcases gN_ok e1 (by simp) with ⟨_,e2⟩ | ⟨y,r,rfl,e2⟩
 ·cases e2
 rcases gN_ok e2 (by simp) with ⟨rfl,e3⟩ | ⟨_,_,_,e3⟩
 case inr=>cases e3
 obtain ⟨b,o,e4,hx⟩:=isA_ok e3
 obtain ⟨b2,o2,e5,hy⟩:=isA_ok e4
 obtain ⟨cs,z,hb,e6⟩:=gK_ok e5 (by simp)
 have hmz:=gK_mz e5 (by simp) hb
 obtain ⟨b1,o1,e7,hz⟩:=isA_ok e6
 obtain ⟨c1,z1,hb1,e8⟩:=gK_ok e7 (by simp)
 have hmz1:=gK_mz e7 (by simp) hb1
 obtain ⟨c2,z2,hb2,e9⟩:=gK_ok e8 (by simp)
 have hmz2:=gK_mz e8 (by simp) hb2
 obtain ⟨k1,e9⟩:=bf_ok e9 (by simp)
 obtain ⟨k2,e9⟩:=bf_ok e9 (by simp)
 rcases bf_or e9 with ⟨_,e9⟩ | ⟨k3,e9⟩
 ·cases e9
 obtain ⟨k4,e10⟩:=bf_ok e9 (by simp)
 clear e9
 obtain rfl:=beq_ok k4
 cases e10
 have k1:=ble_ok k1
 have k2:=ble_ok k2
 have hne:b1 ≠ b2:=fun q=>by rw [q,Nat.beq_refl] at k3; cases k3
 refine ⟨Ab.refl _ _ _,fun m w vs s hd=>?_⟩
 obtain ⟨u,us,rfl,d1,d2⟩:=denC_cons.1 hd
 obtain ⟨u2,us2,rfl,d3,d4⟩:=denC_cons.1 d2
 obtain rfl:=denC_nil.1 d4
 obtain ⟨A,O,Z,hm,rfl⟩:=hx _ _ _ d1
 obtain ⟨B2,O2,Z2,hm2,rfl⟩:=hy _ _ _ d3
 obtain ⟨A',O',Z',C,el,fr,q1,q2,_,_,_,q6⟩:=s.cells b cs z hb hmz
 rw [hm] at q1
 cases q1
 have hun:cg cs (Nat.succ o) ≠ .un:=fun q=>by rw [q] at e6; cases e6
 obtain ⟨x1,p1,p2,_⟩:=q6 _ hun
 obtain ⟨B1,O1,Z1,hm1,rfl⟩:=hz _ _ _ p2
 obtain ⟨B1',O1',Z1',C1,el1,fr1,r1,r2,_,r4,_,_⟩:=s.cells b1 c1 z1 hb1 hmz1
 rw [hm1] at r1
 cases r1
 obtain ⟨B2',O2',Z2',C2,el2,fr2,t1,t2,_,t4,_,_⟩:=s.cells b2 c2 z2 hb2 hmz2
 rw [hm2] at t1
 cases t1
 obtain rfl:=r4 (.inr k1)
 obtain rfl:=t4 (.inr k2)
 have hBB:B1 ≠ B2 ∨ O1 + o1 ≠ O2 + o1:=by
  rcases Nat.decEq B1 B2 with q | q
  ·exact .inl q
  ·subst q
   rcases s.inj b1 b2 c1 z1 c2 z2 B1 O1 Z1 O2 Z2 hb1 hb2 hm1 hm2 with q | ⟨_,_,q⟩
   ·exact absurd q hne
   ·have:=q k1 k2
    exact .inr (by omega)
 refine (hI tr tp rfl w A (O + o) B1 (O1 + o1) B2 (O2 + o1) C C1 C2 el el1 el2 fr q2 p1 r2 t2 hBB).mono ?_
 rintro e w' ⟨rfl,ho⟩
 exact ⟨_,m,rfl,Tr.old s ho,rfl⟩
theorem Tr.fresh {fl n B z':Nat} {h:HT} {m:Mp} {w w':World} {c':CT} {C':Array Value} {el:TypeId} (s:Sim P ρ m g h w) (hn:m n=none) (hB:w.heap.size≤B) (hh:w'.heap[B]?=some (.cells C' el (0,0))) (o:Old w w') (hmz:z' ≠ MAPZ) (hz':∀ k,z'≤k→cg c' k=.un) (hK:Knows ρ (upd m n (B,0,C'.size)) c' C' 0) :
  Tr P ρ g fl h n m w (hst h (.bk c' z') n) (n + 1) (upd m n (B,0,C'.size)) w':=by
 have hle:Le m (upd m n (B,0,C'.size)):=upd_le hn
 have hold:∀ b' c1 z1,b' ≠ n→hg (hst h (.bk c' z') n) b'=.bk c1 z1→hg h b'=.bk c1 z1:=fun b' c1 z1 e1 e2=>by
  rcases hg_hst h (.bk c' z') n b' with ⟨h1,_⟩ | ⟨_,h1⟩
  ·exact absurd h1 e1
  ·rw [h1] at e2; exact e2
 have hself:∀ c1 z1,hg (hst h (.bk c' z') n) n=.bk c1 z1→c1=c'∧z1=z':=fun c1 z1 e=>by
  rcases hg_hst h (.bk c' z') n n with ⟨_,h1 | h1⟩ | ⟨h1,_⟩
  ·rw [e] at h1; cases h1; exact ⟨rfl,rfl⟩
  ·rw [e] at h1; cases h1
  ·exact absurd rfl h1
 have hup:∀ b',b' ≠ n→upd m n (B,0,C'.size) b'=m b':=fun b' e=>by unfold upd; rw [if_neg e]
 refine ⟨⟨fun b' c1 z1 e=>?_,fun b1 b2 c1 z1 c2 z2 B1 O1 Z1 O2 Z2 e1 e2 e3 e4=>?_⟩,upd_ext _ _,⟨o.os,o.tape,o.output,o.size,fun k hk _=>o.block k hk,fun k r hr=>⟨r,(o.block k (Array.getElem?_eq_some_iff.1 hr).1).trans hr⟩⟩,fun b' c1 z1 B1 O1 Z1 e1 e2 e3=>?_⟩
 ·by_cases eb:b'=n
  ·subst eb
   obtain ⟨rfl,rfl⟩:=hself _ _ e
   exact ⟨B,0,C'.size,upd_self _ _,.inl ⟨hmz,C',el,(0,0),hh,rfl,fun _=>rfl,hz',hK⟩⟩
  ·have e6:=hold b' c1 z1 eb e
   obtain ⟨B2,O2,Z2,q1,q2⟩:=s.cell b' c1 z1 e6
   exact ⟨B2,O2,Z2,hle _ _ q1,q2.move (o.block B2 (s.lt e6 q1)) hle⟩
 ·by_cases x1:b1=n
  ·by_cases x2:b2=n
   ·exact .inl (by omega)
   ·have e6:=hold b2 c2 z2 x2 e2
    rw [hup b2 x2] at e4
    subst x1
    rw [upd_self] at e3
    cases e3
    have:=s.lt e6 e4
    omega
  ·have e6:=hold b1 c1 z1 x1 e1
   rw [hup b1 x1] at e3
   by_cases x2:b2=n
   ·subst x2
    rw [upd_self] at e4
    cases e4
    have:=s.lt e6 e3
    omega
   ·have e8:=hold b2 c2 z2 x2 e2
    rw [hup b2 x2] at e4
    exact s.inj b1 b2 c1 z1 c2 z2 B1 O1 Z1 O2 Z2 e6 e8 e3 e4
 ·by_cases eb:b'=n
  ·subst eb
   rw [upd_self] at e3
   cases e3
   exact .inl hB
  ·rw [hup b' eb] at e3
   exact .inr ⟨b',c1,z1,O1,Z1,e1,hold b' c1 z1 eb e2,e3⟩
/-! a new row -/
def RowC (P:Program) (ρ:Nat→Int) (f:Nat) (c ch:RV):Prop:=∀ (m:Mp) (w:World) (vs:List Value),denC ρ m c vs →
 Calls P f vs.toArray w fun e w'=>∃ (B:Nat) (C:Array Value) (el:TypeId) (cs:List Value),e=.returned (.slice (some ⟨B,0,none⟩) cs.length cs.length)∧w.heap.size≤B∧w'.heap[B]?=some (.cells C el (0,0))∧C.size=cs.length∧chLen ch=some cs.length∧denC ρ m ch cs∧(∀ x ∈ cs,Cell x) ∧
  (∀ (j:Nat) (u:Value),cs[j]?=some u→C[j]?=some u)∧Old w w'
theorem rowX_ok {f fl n n':Nat} {ch c v:RV} {h h':HT} (hI:RowC P ρ f c ch) (hf:fl≤n) (e:rowX ch h n=.ok v h' n') :
  Ab fl h n h' n'∧∀ (m:Mp) (w:World) (vs:List Value),Sim P ρ m g h w→denC ρ m c vs→Fresh n n' m→Calls P f vs.toArray w (fun e w'=>∃ u m',e=.returned u∧Tr P ρ g fl h n m w h' n' m' w'∧den ρ m' v u):=by
 unfold rowX at e
 obtain ⟨z,hz,e⟩:=gO_ok e (by simp)
 obtain ⟨hv,hn',hh',hmz⟩:=newBlk_ok e
 refine ⟨by rw [hn',hh']; exact Ab.new _ hf,fun m w vs s hd hfr=>?_⟩
 have hn:=hfr n (Nat.le_refl _) (by omega)
 refine (hI m w vs hd).mono ?_
 rintro e w' ⟨B,C,el,cs,rfl,f1,f2,f3,f4,f5,f6,f7,f8⟩
 have hzl:z=cs.length:=Option.some.inj (hz.symm.trans f4)
 have hkn:=knows_lay (C:=C) (O:=0) f4 f5 f6 (fun j u hj=>by rw [Nat.zero_add]; exact f7 j u hj)
 refine ⟨_,upd m n (B,0,C.size),rfl,?_,?_⟩
 ·rw [hh',hn',hzl]
  exact Tr.fresh s hn f1 f2 f8 (by rw [← hzl]; exact hmz) hkn.1 (hkn.2.le (upd_le hn))
 ·rw [hv]
  exact ⟨B,0,C.size,upd_self _ _,Nat.le_refl _,by rw [hzl]⟩
/-! the order of a number and a read -/
/-! what is said of one row of one number -/
def LstC (P:Program) (f:Nat):Prop:=∀ (w:World) (A A2:Addr) (cap cap2 z:Nat),z≤9→w.cell? A=some (.slice (some A2) 1 cap2)→w.cell? A2=some (.int .i64 z)→Calls P f #[.slice (some A) 1 cap,.int .i64 0] w fun e w'=>e=.returned (.string (strV [48 + z,10]))∧Old w w'
theorem lst1_get {x v:RV} {h h':HT} {n':Nat} {k:RV→SR} (e:lst1 x h k=.ok v h' n'):∃ y,slLen x=some 1∧slCells h 1 x 1=.cons y .nil∧k y=.ok v h' n':=by
 unfold lst1 at e
 obtain ⟨m,h1,e1⟩:=gO_ok e (by simp)
 obtain ⟨h2,e2⟩:=bf_ok e1 (by simp)
 obtain rfl:=beq_ok h2
 obtain ⟨_,e3⟩:=nU_ok e2 (by simp)
 rcases gN_ok e3 (by simp) with ⟨_,e4⟩ | ⟨y,r,h3,e4⟩
 ·cases e4
 rcases gN_ok e4 (by simp) with ⟨rfl,e5⟩ | ⟨_,_,_,e5⟩
 ·exact ⟨y,h1,h3,e5⟩
 ·cases e5
theorem lst1_den {m:Mp} {w:World} {h:HT} {x y:RV} {u:Value} (s:Sim P ρ m g h w) (h1:slLen x=some 1) (h2:slCells h 1 x 1=.cons y .nil) (d:den ρ m x u):∃ A cap u2,u=.slice (some A) 1 cap∧w.cell? A=some u2∧den ρ m y u2:=by
 obtain ⟨A,cap,cs,hx,_,_,g3,_,g5⟩:=slCells_ok s d h2 (by simp) (by omega) h1
 obtain ⟨u2,us,rfl,d1,_⟩:=denC_cons.1 g3
 refine ⟨A,cap,u2,hx,?_,d1⟩
 have:=g5 0 u2 rfl
 rwa [show A.add 0=A from rfl] at this
theorem lstX_ok {f fl n n':Nat} {c v:RV} {h h':HT} (hC:LstC P f) (e:lstX c h n=.ok v h' n') :
  Ab fl h n h' n'∧∀ (m:Mp) (w:World) (vs:List Value),Sim P ρ m g h w→denC ρ m c vs→Calls P f vs.toArray w (fun e w'=>∃ u m',e=.returned u∧Tr P ρ g fl h n m w h' n' m' w'∧den ρ m' v u):=by
 unfold lstX at e
 rcases gN_ok e (by simp) with ⟨_,e1⟩ | ⟨x,r,rfl,e1⟩
 ·cases e1
 rcases gN_ok e1 (by simp) with ⟨_,e2⟩ | ⟨y,r,rfl,e2⟩
 ·cases e2
 rcases gN_ok e2 (by simp) with ⟨rfl,e3⟩ | ⟨_,_,_,e3⟩
 case inr=>cases e3
 obtain ⟨k,z0,rfl,e4⟩:=gI_ok e3 (by simp)
 obtain ⟨hk,e5⟩:=bf_ok e4 (by simp)
 obtain ⟨hz0,e6⟩:=bf_ok e5 (by simp)
 obtain ⟨y1,a1,a2,e7⟩:=lst1_get e6
 obtain ⟨y2,a3,a4,e8⟩:=lst1_get e7
 unfold digX at e8
 obtain ⟨j,z,rfl,e9⟩:=gI_ok e8 (by simp)
 obtain ⟨hj,e10⟩:=bf_ok e9 (by simp)
 obtain ⟨hn,e11⟩:=bf_ok e10 (by simp)
 obtain ⟨hl,e12⟩:=bf_ok e11 (by simp)
 have hl:=ble_ok hl
 cases e12
 refine ⟨Ab.refl _ _ _,fun m w vs s hd=>?_⟩
 obtain ⟨u,us,rfl,d1,d2⟩:=denC_cons.1 hd
 obtain ⟨u2,us2,rfl,d3,d4⟩:=denC_cons.1 d2
 have:=denC_nil.1 d4
 subst this
 obtain ⟨A,cap,u3,rfl,c1,d5⟩:=lst1_den s a1 a2 d1
 obtain ⟨A2,cap2,u4,rfl,c2,d6⟩:=lst1_den s a3 a4 d5
 have hz:(natI z:Int)=z:=(nonI_ok hn).symm
 have d6:u4=.int j z:=d6
 have d3:u2=.int k z0:=d3
 have z00:z0=0:=by
  cases z0 with
  | ofNat q=>cases q with
   | zero=>rfl
   | succ q=>exact absurd (show Nat.beq (q + 1) 0=true from hz0) (by simp)
  | negSucc q=>exact absurd (show false=true from hz0) (by simp)
 have k64:k=.i64:=by cases k <;> first | rfl | cases hk
 have j64:j=.i64:=by cases j <;> first | rfl | cases hj
 subst z00 k64 j64 d6 d3
 rw [← hz] at c2
 refine (hC w A A2 cap cap2 (natI z) hl c1 c2).mono ?_
 rintro e w' ⟨rfl,ho⟩
 refine ⟨_,m,rfl,Tr.old s ho,rfl,fun x hx=>?_⟩
 have hx:x=48 + natI z ∨ x=10:=by simpa using hx
 omega
def ToldC (P:Program) (ρ:Nat→Int) (f:Nat) (c:RV) (es:Nat) (ch:RV):Prop:=known P f=true∧(es < 16777216→InsC P f es)∧(16777216≤es→es < 33554432→JoinC P f)∧(33554432≤es→es < 50331648→∀ tr tp,ch=.p tr tp→IsC P f tr tp)∧(50331648≤es→es < 67108864→RowC P ρ f c ch)∧(67108864≤es→LstC P f)
theorem toldX_ok {f es fl n n':Nat} {ys:Ys} {ch c v:RV} {h h':HT} (_hy:YsOk ρ ys) (hI:ToldC P ρ f c es ch) (hgf:g≤fl) (hf:fl≤n) (e:toldX ys es ch c fl h n=.ok v h' n') :
  Ab fl h n h' n'∧∀ (m:Mp) (w:World) (vs:List Value),Sim P ρ m g h w→Glob P ρ m→denC ρ m c vs→Fresh n n' m→Calls P f vs.toArray w (fun e w'=>∃ u m',e=.returned u∧Tr P ρ g fl h n m w h' n' m' w'∧den ρ m' v u):=by
 obtain ⟨_,hI1,hI2,hI3,hI4,hI5⟩:=hI
 have no:∀ {a b:Nat},Nat.ble a b=false→b < a:=fun {a b} q=>by
  rcases Nat.lt_or_ge b a with p | p
  ·exact p
  ·rw [ble_yes p] at q; cases q
 rcases bf_or e with ⟨hz,e1⟩ | ⟨hz,e1⟩
 ·rcases bf_or e1 with ⟨hy1,e2⟩ | ⟨hy1,e2⟩
  ·rcases bf_or e2 with ⟨hx,e3⟩ | ⟨hx,e3⟩
   ·rcases bf_or e3 with ⟨hx2,e4⟩ | ⟨hx2,e4⟩
    ·obtain ⟨h1,h2⟩:=lstX_ok (ρ:=ρ) (g:=g) (fl:=fl) (hI5 (ble_ok hx2)) e4
     exact ⟨h1,fun m w vs s _ hd _=>h2 m w vs s hd⟩
    ·obtain ⟨h1,h2⟩:=rowX_ok (g:=g) (hI4 (ble_ok hx) (no hx2)) hf e4
     exact ⟨h1,fun m w vs s _ hd hfr=>h2 m w vs s hd hfr⟩
   ·obtain ⟨h1,h2⟩:=isX_ok (ρ:=ρ) (g:=g) (fl:=fl) (hI3 (ble_ok hy1) (no hx)) e3
    exact ⟨h1,fun m w vs s _ hd _=>h2 m w vs s hd⟩
  ·obtain ⟨h1,h2⟩:=joinX_ok (ρ:=ρ) (g:=g) (fl:=fl) (hI2 (ble_ok hz) (no hy1)) e2
   exact ⟨h1,fun m w vs s _ hd _=>h2 m w vs s hd⟩
 ·obtain ⟨h1,h2⟩:=insX_ok (ρ:=ρ) (hI1 (no hz)) hgf hf e1
  exact ⟨h1,fun m w vs s _ hd hfr=>h2 m w vs s hd hfr⟩
def KcTab (P:Program) (ρ:Nat→Int) (f:Nat) (c:RV) (ch:RV):Prop:=0 < P.globals.size∧known P f=true∧∀ (m:Mp) (w:World) (vs us:List Value) (C:Array Value) (el:TypeId) (fr:Nat × Nat),denC ρ m c vs→w.heap[0]?=some (.cells C el fr)→denC ρ m ch us→(∀ (j:Nat) (u:Value),us[j]?=some u→C[j]?=some u) →
 Calls P f vs.toArray w (fun e w'=>e=.returned (.bool true)∧Old w w')
def KcOk (P:Program) (ρ:Nat→Int) (kc:Kc):Prop:=∀ f c q,kc f c=some q→(q.1 < 16777216→KcTab P ρ f c q.2)∧(16777216≤q.1→ToldC P ρ f c (q.1 - 16777216) q.2)
noncomputable def kcIns (f es:Nat):Kc:=fun f' c=>bf (Nat.beq f' f) (gN none c none fun x r=>gN none r none fun i _=>gL none x none (fun _ _ _ _=>none) (fun _ _ l _=>gI none i fun _ z=>bf (nonI z) (bf (Nat.ble (Nat.succ (natI z)) l) (some (16777216 + es,.nil)) none) none) (fun _ _=>none)) none
noncomputable def kcOr (a b:Kc):Kc:=fun f c=>gO (b f c) (a f c) some
theorem kcOr_ok {a b:Kc} (ha:KcOk P ρ a) (hb:KcOk P ρ b):KcOk P ρ (kcOr a b):=fun f c q h=>by
 unfold kcOr at h
 rcases gO_or h with ⟨y,h1,h2⟩ | ⟨_,h2⟩
 ·cases h2; exact ha f c q h1
 ·exact hb f c q h2
theorem kcIns_ok {f es:Nat} (hI:InsC P f es):KcOk P ρ (kcIns f es):=fun f' c q h=>by
 unfold kcIns at h
 obtain ⟨h1,h2⟩:=bf_ok h (by simp)
 obtain rfl:=beq_ok h1
 rcases gN_ok h2 (by simp) with ⟨_,h3⟩ | ⟨x,r,rfl,h3⟩
 ·cases h3
 rcases gN_ok h3 (by simp) with ⟨_,h4⟩ | ⟨i,r',rfl,h4⟩
 ·cases h4
 rcases gL_ok h4 (by simp) with ⟨_,h5⟩ | ⟨_,_,_,_,_,h5⟩ | ⟨_,_,l,_,rfl,h5⟩ | ⟨_,_,_,h5⟩
 ·cases h5
 ·cases h5
 case inr.inr.inr=>cases h5
 obtain ⟨_,z,rfl,h6⟩:=gI_ok h5 (by simp)
 obtain ⟨_,h7⟩:=bf_ok h6 (by simp)
 obtain ⟨_,h8⟩:=bf_ok h7 (by simp)
 cases h8
 refine ⟨fun h=>?_,fun _=>?_⟩
 ·have:16777216 + es < 16777216:=h
  omega
 ·show ToldC P ρ f' _ (16777216 + es - 16777216) _
  rw [Nat.add_sub_cancel_left]; exact ⟨hI.1,fun _=>hI,fun q=>absurd hI.2.2.1 (by omega),fun q=>absurd hI.2.2.1 (by omega),fun q=>absurd hI.2.2.1 (by omega),fun q=>absurd hI.2.2.1 (by omega)⟩
theorem told_is {f tr tp:Nat} {c:RV} (hk:known P f=true) (hI:IsC P f tr tp):ToldC P ρ f c 33554432 (.p tr tp):=⟨hk,fun h=>by omega,fun _ h=>by omega,fun _ _ a b e=>by cases e; exact hI,fun h=>by omega,fun h=>by omega⟩
theorem told_row {f:Nat} {c ch:RV} (hk:known P f=true) (hI:RowC P ρ f c ch):ToldC P ρ f c 50331648 ch:=⟨hk,fun h=>by omega,fun _ h=>by omega,fun _ h=>by omega,fun _ _=>hI,fun h=>by omega⟩
theorem told_lst {f:Nat} {c ch:RV} (hk:known P f=true) (hI:LstC P f):ToldC P ρ f c 67108864 ch:=⟨hk,fun h=>by omega,fun _ h=>by omega,fun _ h=>by omega,fun _ h=>by omega,fun _=>hI⟩
noncomputable def kcIs (f tr tp:Nat):Kc:=fun f' c=>bf (Nat.beq f' f) (gN none c none fun x _=>gF none x fun t _=>bf (Nat.beq t (33554432 + tr)) (some (50331648,.p tr tp)) none) none
theorem kcIs_ok {f tr tp:Nat} (hk:known P f=true) (hI:IsC P f tr tp):KcOk P ρ (kcIs f tr tp):=fun f' c q h=>by
 unfold kcIs at h
 obtain ⟨h1,h2⟩:=bf_ok h (by simp)
 obtain rfl:=beq_ok h1
 rcases gN_ok h2 (by simp) with ⟨_,h3⟩ | ⟨x,r,rfl,h3⟩
 ·cases h3
 obtain ⟨t,_,_,h4⟩:=gF_ok h3 (by simp)
 obtain ⟨_,h5⟩:=bf_ok h4 (by simp)
 cases h5
 refine ⟨fun h=>?_,fun _=>?_⟩
 ·have:16777216 + 33554432 < 16777216:=h
  omega
 ·show ToldC P ρ f' _ (16777216 + 33554432 - 16777216) _
  rw [Nat.add_sub_cancel_left]; exact told_is hk hI
noncomputable def kcLst (f:Nat):Kc:=fun f' c=>bf (Nat.beq f' f) (gN none c none fun x _=>gO none (slLen x) fun m=>bf (Nat.beq m 1) (some (16777216 + 67108864,.nil)) none) none
theorem kcLst_ok {f:Nat} (hk:known P f=true) (hI:LstC P f):KcOk P ρ (kcLst f):=fun f' c q h=>by
 unfold kcLst at h
 obtain ⟨h1,h2⟩:=bf_ok h (by simp)
 obtain rfl:=beq_ok h1
 rcases gN_ok h2 (by simp) with ⟨_,h3⟩ | ⟨x,r,rfl,h3⟩
 ·cases h3
 obtain ⟨m,_,h4⟩:=gO_ok h3 (by simp)
 obtain ⟨_,h5⟩:=bf_ok h4 (by simp)
 cases h5
 refine ⟨fun h=>?_,fun _=>?_⟩
 ·have:16777216 + 67108864 < 16777216:=h
  omega
 ·show ToldC P ρ f' _ (16777216 + 67108864 - 16777216) _
  rw [Nat.add_sub_cancel_left]; exact told_lst hk hI
noncomputable def kcRow (f:Nat) (r:RV→Option RV):Kc:=fun f' c=>bf (Nat.beq f' f) (gO none (r c) fun ch=>some (16777216 + 50331648,ch)) none
theorem kcRow_ok {f:Nat} {r:RV→Option RV} (hk:known P f=true) (hR:∀ c ch,r c=some ch→RowC P ρ f c ch):KcOk P ρ (kcRow f r):=fun f' c q h=>by
 unfold kcRow at h
 obtain ⟨h1,h2⟩:=bf_ok h (by simp)
 obtain rfl:=beq_ok h1
 obtain ⟨ch,h3,h4⟩:=gO_ok h2 (by simp)
 cases h4
 refine ⟨fun h=>?_,fun _=>?_⟩
 ·have:16777216 + 50331648 < 16777216:=h
  omega
 ·show ToldC P ρ f' _ (16777216 + 50331648 - 16777216) _
  rw [Nat.add_sub_cancel_left]; exact told_row hk (hR c ch h3)
theorem callX_ok (hy:YsOk ρ ys) (fs:Nat→Option RF) (hfs:∀ f r,fs f=some r→compF P f=some r) {orc:Nat→RV→Option RV} (ho:OrcOk P ρ orc) {kc:Kc} (hk:KcOk P ρ kc):∀ deep,ClOk P ρ g (callX ys fs orc kc deep)
 | 0=>fun f c fl h n v h' n' e _ _=>by cases e
 | deep + 1=>fun f c fl h n v h' n' e hgf hf=>by
  have ih:=callX_ok hy fs hfs ho hk deep
  have ek:gO (gO (gO (SR.bad [92,f]) (fs f) fun r=>callF ys (callX ys fs orc kc deep) f r c fl h n) (orc f c) (fun v=>.ok v h n)) (kc f c) (fun q=>bf (Nat.ble 16777216 q.1) (toldX ys (Nat.sub q.1 16777216) q.2 c fl h n) (kcChk h n q.1 q.2))=.ok v h' n':=e
  rcases gO_or ek with ⟨q,h1,h2⟩ | ⟨_,e0⟩
  ·obtain ⟨hk1,hk2⟩:=hk f c q h1
   rcases bf_or h2 with ⟨hz,h2⟩ | ⟨hz,h2⟩
   ·have hI:=hk2 (ble_ok hz)
    obtain ⟨hab,hc⟩:=toldX_ok (ρ:=ρ) hy hI hgf hf h2
    exact ⟨hab,fun _=>⟨hI.1,fun m w vs s gl hd hfr=>hc m w vs s gl hd hfr⟩,fun q=>absurd (known_lt hI.1) (Nat.not_lt_of_le q)⟩
   obtain ⟨hgl,k1,k2⟩:=hk1 (by
    rcases Nat.lt_or_ge q.1 16777216 with p | p
    ·exact p
    ·rw [ble_yes p] at hz; cases hz)
   have e2:gK (SR.bad [160]) (hg h 0) (fun cs _=>nU (.bad [161]) (rd cs q.1 0) fun r=>bf (eqV r q.2) (.ok (.b true) h n) (.bad [162]))=.ok v h' n':=h2
   obtain ⟨cs,z,hb,e3⟩:=gK_ok e2 (by simp)
   have hmz:=gK_mz e2 (by simp) hb
   obtain ⟨hu,e4⟩:=nU_ok e3 (by simp)
   obtain ⟨he,e5⟩:=bf_ok e4 (by simp)
   cases e5
   refine ⟨Ab.refl _ _ _,fun _=>⟨k1,fun m w vs s gl hd _=>?_⟩,fun q=>absurd (known_lt k1) (Nat.not_lt_of_le q)⟩
   obtain ⟨Z,hz,_⟩:=gl 0 hgl
   obtain ⟨B',O',Z',C,el,fr,q1,q2,q3,hcl⟩:=cellAt s hb hmz
   rw [hz] at q1
   cases q1
   obtain ⟨_,us,hl,hd2,hc,hj⟩:=rd_ok q3 q.1 0 hu
   rw [eqV_ok _ _ he] at hd2
   refine (k2 m w vs us C el fr hd q2 hd2 (fun j u hju=>by have:=hj j u hju; simpa using this)).mono ?_
   rintro e w' ⟨rfl,o⟩
   exact ⟨_,m,rfl,Tr.old s o,rfl⟩
  rcases gO_or e0 with ⟨u,h1,h2⟩ | ⟨_,e1⟩
  ·cases h2
   obtain ⟨k1,k2⟩:=ho f c v h1
   refine ⟨Ab.refl _ _ _,fun _=>⟨k1,fun m w vs s _ hd _=>(k2 m w vs hd).mono ?_⟩,fun q=>absurd (known_lt k1) (Nat.not_lt_of_le q)⟩
   rintro e w' ⟨u,rfl,o,hu⟩
   exact ⟨u,m,rfl,Tr.old s o,hu⟩
  ·obtain ⟨r,hr,e2⟩:=gO_ok e1 (by simp)
   exact any_ok hy (fun _ _ _ _ h1 h2=>dr_ok hy h1 h2) ih (hfs f r hr) hgf hf e2
end Go.Rn
namespace Go.Rn
variable {ρ:Nat→Int} {P:Program}
noncomputable def look (x b:Nat):List (Nat × Nat × Nat)→Option RV
 | []=>none
 | e::l=>if Nat.beq e.1 x && (Nat.beq e.2.1 b && Nat.blt 0 b) then some (.i .i64 (.ofNat e.2.2)) else look x b l
noncomputable def placeC (tab:List (Nat × Nat × Nat)) (c:RV):Option RV:=
 gN none c none fun x r=>match x with
  | .y .i64 (.v x)=>gN none r none fun y q=>match y with
   | .i .i64 (.ofNat b)=>gN none q (look x b tab) fun _ _=>none
   | _=>none
  | _=>none
noncomputable def placeO (pf:Nat) (tab:List (Nat × Nat × Nat)) (f:Nat) (c:RV):Option RV:=bf (Nat.beq f pf) (placeC tab c) none
noncomputable def orO (a b:Nat→RV→Option RV) (f:Nat) (c:RV):Option RV:=gO (b f c) (a f c) some
theorem look_ok {x b:Nat} {v:RV}:∀ {tab:List (Nat × Nat × Nat)},look x b tab=some v→∃ r,(x,b,r) ∈ tab∧0 < b∧v=.i .i64 (.ofNat r)
 | [],h=>by cases h
 | e::l,h=>by
  unfold look at h
  split at h
  ·rename_i hc
   simp only [Bool.and_eq_true] at hc
   cases h
   refine ⟨e.2.2,?_,by have:=hc.2.2; simp [Nat.blt] at this; omega,rfl⟩
   rw [← beq_ok hc.1,← beq_ok hc.2.1]
   exact List.mem_cons_self
  ·obtain ⟨r,h1,h2⟩:=look_ok h
   exact ⟨r,List.mem_cons_of_mem _ h1,h2⟩
theorem place_ok {pf:Nat} {tab:List (Nat × Nat × Nat)} (hk:known P pf=true) (hp:∀ (n:Int) (k:Nat) (w:World),0 < k→k≤1000000→Calls P pf #[.int .i64 n,.int .i64 k] w fun e w'=>e=.returned (.int .i64 (n % k))∧w=w')
  (ht:∀ e ∈ tab,0 < e.2.1→e.2.1≤1000000∧ρ e.1 % (e.2.1:Int)=e.2.2):OrcOk P ρ (placeO pf tab):=by
 intro f c v h
 unfold placeO at h
 obtain ⟨h1,h2⟩:=bf_ok h (by simp)
 have hf:=beq_ok h1
 subst hf
 refine ⟨hk,fun m w vs hd=>?_⟩
 unfold placeC at h2
 rcases gN_ok h2 (by simp) with ⟨_,h3⟩ | ⟨x,r,rfl,h3⟩
 ·cases h3
 split at h3
 ·rename_i x
  rcases gN_ok h3 (by simp) with ⟨_,h4⟩ | ⟨y,q,rfl,h4⟩
  ·cases h4
  split at h4
  ·rename_i b
   rcases gN_ok h4 (by simp) with ⟨rfl,h5⟩ | ⟨_,_,_,h5⟩
   ·obtain ⟨r,h6,h7,rfl⟩:=look_ok h5
    obtain ⟨h8,h9⟩:=ht _ h6 h7
    obtain ⟨u,us,rfl,q1,q2⟩:=denC_cons.1 hd
    obtain ⟨u2,us2,rfl,q3,q4⟩:=denC_cons.1 q2
    have:=denC_nil.1 q4
    subst this
    have e1:u=.int .i64 (ρ x):=q1
    have e2:u2=.int .i64 (Int.ofNat b):=q3
    subst e1 e2
    refine (hp (ρ x) b w h7 h8).mono ?_
    rintro e w' ⟨rfl,rfl⟩
    exact ⟨_,rfl,Old.refl _,by show Value.int .i64 (ρ x % b)=.int .i64 (Int.ofNat r); rw [h9]; rfl⟩
   ·cases h5
  ·cases h4
 ·cases h3
theorem or_ok {a b:Nat→RV→Option RV} (ha:OrcOk P ρ a) (hb:OrcOk P ρ b):OrcOk P ρ (orO a b):=by
 intro f c v h
 unfold orO at h
 rcases gO_or h with ⟨y,h1,h2⟩ | ⟨_,h2⟩
 ·cases h2; exact ha f c _ h1
 ·exact hb f c v h2
theorem place_neg (n:Int) (k:Nat) (hk:0 < k) (h:n.tmod k < 0):n.tmod k + k=n % k:=by
 have:=Int.tmod_eq_emod (a:=n) (b:=k)
 have h1:=Int.emod_nonneg n (show (k:Int) ≠ 0 by omega)
 split at this <;> omega
theorem place_pos (n:Int) (k:Nat) (hk:0 < k) (h:¬ n.tmod k < 0):n.tmod k=n % k:=by
 have:=Int.tmod_eq_emod (a:=n) (b:=k)
 have h1:=Int.emod_lt_of_pos n (show (0:Int) < k by omega)
 split at this <;> omega
end Go.Rn
