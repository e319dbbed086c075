/-
  One text of a symbolic evaluator over the model, shown sound once for every program: no statement is claimed here.
-/
import Derived.Test.YthfaoceleaaepaaGreatDoorRnX
namespace Go.Rn
variable {ρ:Nat→Int} {P:Program}
variable {g fl nt:Nat} {ys:Ys} {cl:Cl'}
def pairRest (x y : It) : Bool := Nat.beq (x.wr &&& (y.rd ||| y.wr)) 0 && Nat.beq (x.rd &&& y.wr) 0 &&
    (match x.c, y.c with
     | .eff, .eff => false
     | .alloc, .eff => false
     | .alloc, .load => !y.nm
     | .eff, .load => Nat.ble y.p x.en
     | .load, .eff => Nat.ble (y.en + 1) x.q
     | _, _ => true)
theorem pairOk_eq (x y:It):pairOk x y=(y.bf.testBit x.ix || pairRest x y):=rfl
structure Dw (P:Program) (fl nt:Nat) (ys:Ys) (cl:Cl') (os:Array Oper) (l:List RQ) (V:Nat→FT) (H:Nat→HT) (N:Nat→Nat) (R:Nat→RV) (csF:List CK) (hsF:List HT) (bf:List Nat):Prop where
 len:l.length=os.size
 get:∀ (i:Nat) (o:Oper),os[i]?=some o→∃ k,l[i]?=some (compQ P nt os o k)
 run:DRun ys cl fl (N 0) l V H N R csF
 ck:ckOver hsF csF=true
 hs0:∃ pre,hsF=pre ++ [H 0]
 hsE:∀ i q,l[i]?=some q→isEf q=true→∃ pre suf,hsF=pre ++ H (i + 1)::suf∧suf.length=1 + effs l i
 ones:onesOk l 0=true
 pairs:pairsOk (items l bf 0 0)=true
 back:backOk os.toList 0=true
 bfOk:∀ y,y < os.size→Sure os.toList y (bf.getD y 0)
 small:N l.length≤8388608
def Up (os:List Oper) (S:Nat→Bool) (k:Nat):Prop:=∀ o,os[k]?=some o→∀ e ∈ o.after,Region.binds .any e=true→S e.on=true
theorem Shut.up {os:List Oper} {S:Nat→Bool} (h:Shut os S) {k:Nat} (hk:S k=true):Up os S k:=fun o ho e he hb=>h k hk o ho e he hb
theorem pure_run {lim:Nat} {t:FT} {o:RP} (hc:cls o=.pure):(∃ v,∀ h n,step o ys cl fl lim t h n=.ok v h n) ∨ ∀ h n,∃ l,step o ys cl fl lim t h n=.bad l:=step_pure hc
theorem alloc_run {lim:Nat} {t:FT} {o:RP} (hc:cls o=.alloc):(∃ (f:Nat→RV) (x:RB),∀ h n,step o ys cl fl lim t h n=.ok (f n) (hst h x n) (n + 1)) ∨ ∀ h n,∃ l,step o ys cl fl lim t h n=.bad l:=step_alloc hc
theorem land_no {a b s:Nat} (h:Nat.beq (a &&& b) 0=true) (ha:a.testBit s=true) (hb:b.testBit s=true):False:=by
 have e:=beq_ok h
 have:(a &&& b).testBit s=true:=by rw [Nat.testBit_and,ha,hb]; rfl
 rw [e,Nat.zero_testBit] at this
 cases this
theorem or_bit {a b s:Nat} (h:a.testBit s=true ∨ b.testBit s=true):(a ||| b).testBit s=true:=by
 rw [Nat.testBit_or,Bool.or_eq_true]; exact h
theorem it_wr {l:List RQ} {i ix b en:Nat} {q:RQ} (h:l[i]?=some q):(itOf ix b en q).wr=dm (dOf l i)∧(itOf ix b en q).rd=rOf l i:=by
 unfold dOf rOf
 rw [h]
 cases q
 exact ⟨rfl,rfl⟩
section
variable {os:Array Oper} {l:List RQ} {V:Nat→FT} {H:Nat→HT} {N:Nat→Nat} {R:Nat→RV} {csF:List CK} {hsF:List HT} {bf:List Nat}
variable (D:Dw P fl nt ys cl os l V H N R csF hsF bf)
include D
theorem Dw.pair {S:Nat→Bool} (hS:Shut os.toList S) {i k:Nat} (hik:i < k) (hk:Up os.toList S k) (hi:S i=false) {qi qk:RQ} (h1:l[i]?=some qi) (h2:l[k]?=some qk) :
  pairRest (itOf i (bf.getD i 0) (effs l i) qi) (itOf k (bf.getD k 0) (effs l k) qk)=true:=by
 have e1:=items_get l bf 0 0 i qi h1
 have e2:=items_get l bf 0 0 k qk h2
 rw [Nat.zero_add,Nat.zero_add] at e1 e2
 have e3:=pairs_get D.pairs i k _ _ hik e1 e2
 rw [pairOk_eq,Bool.or_eq_true] at e3
 rcases e3 with e3 | e3
 ·have hlt:k < os.size:=by
   rw [← D.len]
   rcases Nat.lt_or_ge k l.length with p | p
   ·exact p
   ·rw [List.getElem?_eq_none p] at h2; cases h2
  have e4:(bf.getD k 0).testBit i=true:=by cases qi; cases qk; exact e3
  rw [D.bfOk k hlt S hS hk i e4] at hi
  cases hi
 ·exact e3
theorem Dw.apart {S:Nat→Bool} (hS:Shut os.toList S) {i k:Nat} (hik:i < k) (hk:Up os.toList S k) (hi:S i=false) (hkl:k < l.length) {s:Nat} :
  ((dm (dOf l i)).testBit s=true→(rOf l k).testBit s=true→False)∧((dm (dOf l i)).testBit s=true→(dm (dOf l k)).testBit s=true→False)∧((rOf l i).testBit s=true→(dm (dOf l k)).testBit s=true→False):=by
 obtain ⟨qi,h1⟩:∃ q,l[i]?=some q:=⟨_,List.getElem?_eq_getElem (Nat.lt_trans hik hkl)⟩
 obtain ⟨qk,h2⟩:∃ q,l[k]?=some q:=⟨_,List.getElem?_eq_getElem hkl⟩
 have h:=D.pair hS hik hk hi h1 h2
 unfold pairRest at h
 rw [(it_wr h1).1,(it_wr h1).2,(it_wr h2).1,(it_wr h2).2] at h
 simp only [Bool.and_eq_true] at h
 exact ⟨fun a b=>land_no h.1.1 a (or_bit (.inl b)),fun a b=>land_no h.1.1 a (or_bit (.inr b)),fun a b=>land_no h.1.2 a b⟩
theorem Dw.tput {i:Nat} (hi:i < l.length):V (i + 1)=put (V i) (dOf l i) (R i):=by
 have h1:=List.getElem?_eq_getElem hi
 cases hq:l[i] with
 | q d gq k o=>
  rw [hq] at h1
  rw [D.run.put i d gq k o h1]
  unfold dOf
  rw [h1]
theorem Dw.ts_all {S:Nat→Bool}:∀ i,i≤l.length→(∀ k,k < i→S k=true)→ts l (V 0) R S i=V i
 | 0,_,_=>rfl
 | i + 1,hi,hS=>by
  show (if S i=true then put (ts l (V 0) R S i) (dOf l i) (R i) else ts l (V 0) R S i)=_
  rw [if_pos (hS i (by omega)),Dw.ts_all i (by omega) (fun k hk=>hS k (by omega)),D.tput (by omega)]
theorem Dw.ts_read {S:Nat→Bool} (hS:Shut os.toList S) {k:Nat} (hkl:k < l.length) (hk:Up os.toList S k) (hk0:S k=false) {s:Nat} (hs:(rOf l k).testBit s=true) :
  ∀ i,i≤l.length→T.get .un (ts l (V 0) R S i) s=T.get .un (V (min i k)) s
 | 0,_=>by rw [Nat.zero_min]; rfl
 | i + 1,hi=>by
  have ih:=Dw.ts_read hS hkl hk hk0 hs i (by omega)
  show T.get .un (if S i=true then put (ts l (V 0) R S i) (dOf l i) (R i) else ts l (V 0) R S i) s=_
  rcases Nat.lt_trichotomy i k with p | p | p
  ·rw [show min (i + 1) k=i + 1 by omega,D.tput (by omega),put_get]
   rw [show min i k=i by omega] at ih
   cases hSi:S i with
   | true=>rw [if_pos rfl,put_get,ih]
   | false=>
    rw [if_neg (by simp),ih]
    rw [if_neg (fun q=>(D.apart hS p hk hSi hkl (s:=s)).1 q hs)]
  ·subst p
   rw [if_neg (by rw [hk0]; simp),ih]
   rw [show min i i=min (i + 1) i by omega]
  ·rw [show min (i + 1) k=min i k by omega,← ih]
   cases hSi:S i with
   | false=>rw [if_neg (by simp)]
   | true=>
    rw [if_pos rfl,put_get]
    rw [if_neg (fun q=>(D.apart hS p (hS.up hSi) hk0 (by omega) (s:=s)).2.2 hs q)]
def add1 (S:Nat→Bool) (k:Nat):Nat→Bool:=fun i=>if i=k then true else S i
theorem Dw.ts_put {S:Nat→Bool} (hS:Shut os.toList S) {k:Nat} (hkl:k < l.length) (hk0:S k=false) {s:Nat} :
  ∀ i,i≤l.length→T.get .un (ts l (V 0) R (add1 S k) i) s=if k < i∧(dm (dOf l k)).testBit s=true then R k else T.get .un (ts l (V 0) R S i) s
 | 0,_=>by rw [if_neg (by omega)]; rfl
 | i + 1,hi=>by
  have ih:=Dw.ts_put hS hkl hk0 i (s:=s) (by omega)
  show T.get .un (if add1 S k i=true then put (ts l (V 0) R (add1 S k) i) (dOf l i) (R i) else ts l (V 0) R (add1 S k) i) s=if k < i + 1∧(dm (dOf l k)).testBit s=true then R k else T.get .un (if S i=true then put (ts l (V 0) R S i) (dOf l i) (R i) else ts l (V 0) R S i) s
  rcases Nat.lt_trichotomy i k with p | p | p
  ·have ha:add1 S k i=S i:=by unfold add1; rw [if_neg (by omega)]
   rw [ha]
   rw [if_neg (show ¬(k < i∧_) by omega)] at ih
   rw [if_neg (show ¬(k < i + 1∧_) by omega)]
   cases hSi:S i with
   | true=>rw [if_pos rfl,if_pos rfl,put_get,put_get,ih]
   | false=>rw [if_neg (by simp),if_neg (by simp),ih]
  ·subst p
   have ha:add1 S i i=true:=by unfold add1; rw [if_pos rfl]
   rw [ha,if_pos rfl,put_get,ih,if_neg (show ¬(i < i∧_) by omega),hk0,if_neg (show ¬ false=true by simp)]
   by_cases hb:(dm (dOf l i)).testBit s=true
   ·rw [if_pos hb,if_pos ⟨by omega,hb⟩]
   ·rw [if_neg hb,if_neg (fun q=>hb q.2)]
  ·have ha:add1 S k i=S i:=by unfold add1; rw [if_neg (by omega)]
   rw [ha]
   cases hSi:S i with
   | false=>
    rw [if_neg (show ¬ (false=true) by simp),if_neg (show ¬ (false=true) by simp),ih]
    by_cases hb:(dm (dOf l k)).testBit s=true
    ·rw [if_pos ⟨p,hb⟩,if_pos ⟨by omega,hb⟩]
    ·rw [if_neg (fun q=>hb q.2),if_neg (fun q=>hb q.2)]
   | true=>
    rw [if_pos rfl,if_pos rfl,put_get,put_get,ih]
    by_cases hb:(dm (dOf l k)).testBit s=true
    ·rw [if_pos (show k < i∧_ from ⟨p,hb⟩),if_pos (show k < i + 1∧_ from ⟨by omega,hb⟩)]
     by_cases hb2:(dm (dOf l i)).testBit s=true
     ·exact ((D.apart hS p (hS.up hSi) hk0 (by omega) (s:=s)).2.1 hb hb2).elim
     ·rw [if_neg hb2]
    ·rw [if_neg (show ¬(k < i∧_) from fun q=>hb q.2),if_neg (show ¬(k < i + 1∧_) from fun q=>hb q.2)]
/-! ### memory,in the text's order -/
theorem Dw.turn (i:Nat) {d:Go.Rn.D} {gq:G} {k:K3} {o:RP} (h:l[i]?=some (.q d gq k o)) :
  (want (V i) gq=.n∧R i=.ud∧H (i + 1)=H i∧N (i + 1)=N i) ∨ (want (V i) gq=.y∧step o ys cl fl (limOf k (N 0)) (V i) (H i) (N i)=.ok (R i) (H (i + 1)) (N (i + 1))):=by
 rcases D.run.turn i d gq k o h with q | ⟨q1,q2,_⟩
 ·exact .inl q
 ·exact .inr ⟨q1,q2⟩
theorem Dw.one (i:Nat) {q:RQ} (h:l[i]?=some q):oneOk (effs l i) q=true:=by
 have:=ones_get l 0 i q D.ones h
 rwa [Nat.zero_add] at this
theorem Dw.ab (hcl:ClAb g cl) (hgf:g≤fl) (hf:fl≤N 0):∀ i,i≤l.length→Ab fl (H 0) (N 0) (H i) (N i)
 | 0,_=>Ab.refl _ _ _
 | i + 1,hi=>by
  have ih:=Dw.ab hcl hgf hf i (by omega)
  have h1:=List.getElem?_eq_getElem (show i < l.length by omega)
  cases hq:l[i] with
  | q d gq k o=>
   rw [hq] at h1
   rcases D.turn i h1 with ⟨_,_,h2,h3⟩ | ⟨_,h2⟩
   ·rw [h2,h3]; exact ih
   ·exact ih.trans (step_ab hcl hgf _ _ _ _ _ h2 (Nat.le_trans hf ih.le))
theorem Dw.ab1 (hcl:ClAb g cl) (hgf:g≤fl) (hf:fl≤N 0) (i:Nat) (hi:i < l.length):Ab fl (H i) (N i) (H (i + 1)) (N (i + 1)):=by
 have ih:=D.ab hcl hgf hf i (by omega)
 have h1:=List.getElem?_eq_getElem hi
 cases hq:l[i] with
 | q d gq k o=>
  rw [hq] at h1
  rcases D.turn i h1 with ⟨_,_,h2,h3⟩ | ⟨_,h2⟩
  ·rw [h2,h3]; exact Ab.refl _ _ _
  ·exact step_ab hcl hgf _ _ _ _ _ h2 (Nat.le_trans hf ih.le)
theorem Dw.mono (hcl:ClAb g cl) (hgf:g≤fl) (hf:fl≤N 0) {i:Nat}:∀ k,i≤k→k≤l.length→N i≤N k
 | 0,h,_=>by rw [show i=0 by omega]; exact Nat.le_refl _
 | k + 1,h,hk=>by
  rcases Nat.lt_or_ge k i with p | p
  ·rw [show i=k + 1 by omega]; exact Nat.le_refl _
  ·exact Nat.le_trans (Dw.mono hcl hgf hf k p (by omega)) (D.ab1 hcl hgf hf k (by omega)).le
theorem Dw.quiet {i:Nat} {q:RQ} (h:l[i]?=some q) (he:isEf q=false):(H (i + 1)=H i∧N (i + 1)=N i) ∨ ∃ x,H (i + 1)=hst (H i) x (N i)∧N (i + 1)=N i + 1:=by
 cases q with
 | q d gq k o=>
  have h1:=D.one i h
  rcases D.turn i h with ⟨_,_,h2,h3⟩ | ⟨_,h2⟩
  ·exact .inl ⟨h2,h3⟩
  ·cases hc:cls o with
   | pure=>
    rcases pure_run (ys:=ys) (cl:=cl) (fl:=fl) (lim:=limOf k (N 0)) (t:=V i) hc with ⟨v,h3⟩ | h3
    ·rw [h3] at h2; simp only [SR.ok.injEq] at h2; exact .inl ⟨h2.2.1.symm,h2.2.2.symm⟩
    ·obtain ⟨b,h3⟩:=h3 (H i) (N i); rw [h3] at h2; cases h2
   | load=>
    cases o <;> first | (cases hc; done) | skip
    obtain ⟨e1,e2,_⟩:=step_load h2
    exact .inl ⟨e1,e2⟩
   | alloc=>
    rcases alloc_run (ys:=ys) (cl:=cl) (fl:=fl) (lim:=limOf k (N 0)) (t:=V i) hc with ⟨f,x,h3⟩ | h3
    ·rw [h3] at h2; simp only [SR.ok.injEq] at h2; exact .inr ⟨x,h2.2.1.symm,h2.2.2.symm⟩
    ·obtain ⟨b,h3⟩:=h3 (H i) (N i); rw [h3] at h2; cases h2
   | eff=>
    simp only [oneOk,hc] at h1
    cases k <;> first | (cases h1; done) | (cases he; done)
end
end Go.Rn
namespace Go.Rn
variable {ρ:Nat→Int} {P:Program}
variable {g fl nt:Nat} {ys:Ys} {cl:Cl'}
theorem effs_mono {l:List RQ} {i:Nat}:∀ k,i≤k→k≤l.length→effs l i≤effs l k
 | 0,h,_=>by rw [show i=0 by omega]; exact Nat.le_refl _
 | k + 1,h,hk=>by
  rcases Nat.lt_or_ge k i with p | p
  ·rw [show i=k + 1 by omega]; exact Nat.le_refl _
  ·rw [effs_succ l k _ (List.getElem?_eq_getElem (show k < l.length by omega))]
   have:=effs_mono (l:=l) (i:=i) k p (by omega)
   omega
theorem effs_lt {l:List RQ} {i k:Nat} {q:RQ} (h:l[i]?=some q) (he:isEf q=true) (hik:i < k) (hk:k≤l.length):effs l i < effs l k:=by
 have h1:=effs_succ l i q h
 rw [he] at h1
 have h2:=effs_mono (l:=l) (i:=i + 1) k hik hk
 simp at h1
 omega
theorem effs_ex {l:List RQ} {j:Nat}:∀ k,k≤l.length→j < effs l k→∃ e q,e < k∧l[e]?=some q∧isEf q=true∧effs l e=j
 | 0,_,h=>by cases l <;> simp [effs] at h
 | k + 1,hk,h=>by
  have hq:=List.getElem?_eq_getElem (show k < l.length by omega)
  have h1:=effs_succ l k _ hq
  cases hef:isEf l[k] with
  | false=>
   rw [hef] at h1
   obtain ⟨e,q,a,b⟩:=effs_ex (l:=l) (j:=j) k (by omega) (by simp at h1; omega)
   exact ⟨e,q,by omega,b⟩
  | true=>
   rw [hef] at h1
   by_cases hj:effs l k=j
   ·exact ⟨k,_,by omega,hq,hef,hj⟩
   ·obtain ⟨e,q,a,b⟩:=effs_ex (l:=l) (j:=j) k (by omega) (by simp at h1; omega)
    exact ⟨e,q,by omega,b⟩
section
variable {os:Array Oper} {l:List RQ} {V:Nat→FT} {H:Nat→HT} {N:Nat→Nat} {R:Nat→RV} {csF:List CK} {hsF:List HT} {bf:List Nat}
structure Inv (P:Program) (ρ:Nat→Int) (g fl nt:Nat) (os:Array Oper) (l:List RQ) (V:Nat→FT) (H:Nat→HT) (N:Nat→Nat) (R:Nat→RV) (a0:Act) (m0:Mp) (w0:World) (S:Nat→Bool) (j:Nat) (Hc:HT) (m:Mp) (a:Act) (w:World):Prop where
 shut:Shut os.toList S
 defers:a.defers=a0.defers
 fr:Fr P ρ m nt (ts l (V 0) R S l.length) a.tmps
 tr:Tr P ρ g fl (H 0) (N 0) m0 w0 Hc (N l.length) m w
 je:j≤effs l l.length
 ej:∀ i q,l[i]?=some q→isEf q=true→(S i=true ↔ effs l i < j)
 c1:∀ x,((x=0∧j=0) ∨ ∃ e q,x=e + 1∧l[e]?=some q∧isEf q=true∧effs l e + 1=j)→∀ b c z,hg (H x) b=.bk c z→hg Hc b=.bk c z
 c2:∀ k q,l[k]?=some q→isEf q=false→S k=true→j≤effs l k→N k < N (k + 1)→∀ c z,hg (H (k + 1)) (N k)=.bk c z→hg Hc (N k)=.bk c z
 fresh:∀ k,k < l.length→S k=false→Fresh (N k) (N (k + 1)) m
theorem Shut.add {S:Nat→Bool} {os:List Oper} (hS:Shut os S) {i:Nat} (hi:Up os S i):Shut os (add1 S i):=by
 intro z hz o ho e he hb
 have up:∀ x,S x=true→add1 S i x=true:=fun x hx=>by unfold add1; split <;> first | rfl | exact hx
 by_cases hzi:z=i
 ·subst hzi; exact up _ (hi o ho e he hb)
 ·have:S z=true:=by unfold add1 at hz; rwa [if_neg hzi] at hz
  exact up _ (hS z this o ho e he hb)
theorem add1_ne {S:Nat→Bool} {i k:Nat} (h:k ≠ i):add1 S i k=S k:=by unfold add1; rw [if_neg h]
theorem add1_self {S:Nat→Bool} {i:Nat}:add1 S i i=true:=by unfold add1; rw [if_pos rfl]
variable (D:Dw P fl nt ys cl os l V H N R csF hsF bf) (hcl:ClAb g cl) (hgf:g≤fl) (hf:fl≤N 0)
variable {a0:Act} {m0:Mp} {w0:World} {S:Nat→Bool} {j:Nat} {Hc:HT} {m:Mp} {a:Act} {w:World}
variable (I:Inv P ρ g fl nt os l V H N R a0 m0 w0 S j Hc m a w)
include D hcl hgf hf I
theorem Inv.fresh_next {i:Nat} (hi:i < l.length) {m':Mp} (x:Ext (N i) (N (i + 1)) m m'):∀ k,k < l.length→add1 S i k=false→Fresh (N k) (N (k + 1)) m':=by
 intro k hk hSk b h1 h2
 have hne:k ≠ i:=fun q=>by subst q; rw [add1_self] at hSk; cases hSk
 rw [add1_ne hne] at hSk
 have:=I.fresh k hk hSk b h1 h2
 rcases Nat.lt_or_ge k i with p | p
 ·have:=D.mono hcl hgf hf (i:=k + 1) i p (by omega)
  rw [x b (.inl (by omega))]; assumption
 ·have:=D.mono hcl hgf hf (i:=i + 1) k (by omega) (by omega)
  rw [x b (.inr (by omega))]; assumption
theorem Inv.fr_next {i:Nat} (hi:i < l.length) (hi0:S i=false) {m':Mp} (x:Ext (N i) (N (i + 1)) m m') {dst:Option Tmp} (hd:compDst nt dst=some (dOf l i)) {u:Value} (hu:den ρ m' (R i) u) :
  Fr P ρ m' nt (ts l (V 0) R (add1 S i) l.length) (a.put dst u).tmps:=by
 have _:=hcl
 have _:=hgf
 have _:=hf
 have hle:=x.le (I.fresh i hi hi0)
 refine ((I.fr.le hle).putD hd hu).same fun k=>?_
 rw [D.ts_put I.shut hi hi0 _ (Nat.le_refl _),put_get]
 by_cases hb:(dm (dOf l i)).testBit (k + 1)=true
 ·rw [if_pos ⟨hi,hb⟩,if_pos hb]
 ·rw [if_neg (fun q=>hb q.2),if_neg hb]
theorem Inv.quiet {i:Nat} {q:RQ} (hq:l[i]?=some q) (he:isEf q=false) (hi0:S i=false) (hup:Up os.toList S i) {m':Mp} {w':World} {Hc':HT} (B:Tr P ρ g fl Hc (N i) m w Hc' (N (i + 1)) m' w') {dst:Option Tmp}
  (hd:compDst nt dst=some (dOf l i)) {u:Value} (hu:den ρ m' (R i) u) (sup:∀ b c z,hg Hc b=.bk c z→hg Hc' b=.bk c z) (h2:N i < N (i + 1)→∀ c z,hg (H (i + 1)) (N i)=.bk c z→hg Hc' (N i)=.bk c z) :
  Inv P ρ g fl nt os l V H N R a0 m0 w0 (add1 S i) j Hc' m' (a.put dst u) w':=by
 have hi:i < l.length:=by
  rcases Nat.lt_or_ge i l.length with p | p
  ·exact p
  ·rw [List.getElem?_eq_none p] at hq; cases hq
 have hN0:=D.mono hcl hgf hf (i:=0) i (Nat.zero_le _) (by omega)
 have hN1:=D.mono hcl hgf hf (i:=i + 1) l.length hi (Nat.le_refl _)
 refine ⟨I.shut.add hup,(put_defers _ _ _).trans I.defers,I.fr_next D hcl hgf hf hi hi0 B.ext hd hu,I.tr.then B hN0 hN1,I.je,fun k qk hk hek=>?_,fun x hx b c z hb=>sup _ _ _ (I.c1 x hx b c z hb),fun k qk hk hek hSk hjk hNk c z hb=>?_,I.fresh_next D hcl hgf hf hi B.ext⟩
 ·have hne:k ≠ i:=fun p=>by subst p; rw [hq] at hk; cases hk; rw [he] at hek; cases hek
  rw [add1_ne hne]; exact I.ej k qk hk hek
 ·by_cases hki:k=i
  ·subst hki; exact h2 hNk c z hb
  ·rw [add1_ne hki] at hSk
   exact sup _ _ _ (I.c2 k qk hk hek hSk hjk hNk c z hb)
theorem Inv.eff {i:Nat} {q:RQ} (hq:l[i]?=some q) (he:isEf q=true) (hi0:S i=false) (hup:Up os.toList S i) (hE:effs l i=j) (s0:Sim P ρ m0 g (H 0) w0) (f0:Fresh (N 0) (N l.length) m0)
  (sub:∀ b c z,hg (H i) b=.bk c z→hg Hc b=.bk c z) {m':Mp} {w':World} (B:Tr P ρ g fl (H i) (N i) m w (H (i + 1)) (N (i + 1)) m' w') {dst:Option Tmp} (hd:compDst nt dst=some (dOf l i)) {u:Value} (hu:den ρ m' (R i) u) :
  Inv P ρ g fl nt os l V H N R a0 m0 w0 (add1 S i) (j + 1) (mixN (H (i + 1)) Hc (N (i + 1)) (N l.length - N (i + 1))) m' (a.put dst u) w':=by
 have hi:i < l.length:=by
  rcases Nat.lt_or_ge i l.length with p | p
  ·exact p
  ·rw [List.getElem?_eq_none p] at hq; cases hq
 have hN0:=D.mono hcl hgf hf (i:=0) i (Nat.zero_le _) (by omega)
 have hN1:=D.mono hcl hgf hf (i:=i + 1) l.length hi (Nat.le_refl _)
 have hN2:=D.mono hcl hgf hf (i:=i) (i + 1) (by omega) hi
 have hle:=B.ext.le (I.fresh i hi hi0)
 have hmix:∀ b,hg (mixN (H (i + 1)) Hc (N (i + 1)) (N l.length - N (i + 1))) b=if N (i + 1)≤b∧b < N l.length then hg Hc b else hg (H (i + 1)) b:=fun b=>by
  rw [hg_mixN]
  rw [show N (i + 1) + (N l.length - N (i + 1))=N l.length by omega]
 have dom:∀ y,y≤l.length→∀ b c z,N y≤b→b < N l.length→N 0≤b→hg (H y) b ≠ .bk c z:=by
  intro y hy b c z h1 h2 h3 hb
  rcases (D.ab hcl hgf hf y hy).made b c z hb with ⟨c0,z0,h4⟩ | ⟨_,h4⟩
  ·obtain ⟨B',O,Z,q1,_⟩:=s0.cell b c0 z0 h4
   rw [f0 b h3 h2] at q1; cases q1
  ·omega
 have A:=(I.tr.narrow sub).then B hN0 hN1
 refine ⟨I.shut.add hup,(put_defers _ _ _).trans I.defers,I.fr_next D hcl hgf hf hi hi0 B.ext hd hu,⟨?_,A.ext,A.keep,fun b c z B' O Z h1 h2 h3=>?_⟩,?_,fun k qk hk hek=>?_,fun x hx b c z hb=>?_,fun k qk hk hek hSk hjk hNk c z hb=>?_,I.fresh_next D hcl hgf hf hi B.ext⟩
 ·exact Sim.mix hgf (by omega) I.tr.sim sub B (D.ab1 hcl hgf hf i hi) hle (n2:=N l.length) (fun b c z h1 h2=>dom i (by omega) b c z (by omega) h2 (by omega)) hmix
 ·rw [hmix] at h2
  by_cases hc:N (i + 1)≤b∧b < N l.length
  ·rw [if_pos hc] at h2
   exact I.tr.orig b c z B' O Z h1 h2 (by rw [← B.ext b (.inr hc.1)]; exact h3)
  ·rw [if_neg hc] at h2
   exact A.orig b c z B' O Z h1 h2 h3
 ·have h1:=effs_lt hq he hi (Nat.le_refl _); omega
 ·by_cases hki:k=i
  ·subst hki; rw [add1_self]; exact ⟨fun _=>by omega,fun _=>rfl⟩
  ·rw [add1_ne hki,I.ej k qk hk hek]
   have hkl:k < l.length:=by
    rcases Nat.lt_or_ge k l.length with p | p
    ·exact p
    ·rw [List.getElem?_eq_none p] at hk; cases hk
   rcases Nat.lt_or_ge k i with p | p
   ·have:=effs_lt hk hek p (by omega); omega
   ·have:=effs_lt hq he (show i < k by omega) (by omega); omega
 ·have hx1:x=i + 1:=by
   rcases hx with ⟨_,hx⟩ | ⟨e,qe,hx,h1,h2,h3⟩
   ·omega
   ·have hel:e < l.length:=by
     rcases Nat.lt_or_ge e l.length with p | p
     ·exact p
     ·rw [List.getElem?_eq_none p] at h1; cases h1
    rcases Nat.lt_trichotomy e i with p | p | p
    ·have:=effs_lt h1 h2 p (by omega); omega
    ·omega
    ·have:=effs_lt hq he p (by omega); omega
  subst hx1
  rw [hmix]
  by_cases hc:N (i + 1)≤b∧b < N l.length
  ·exact absurd hb (dom (i + 1) hi b c z hc.1 hc.2 (by omega))
  ·rw [if_neg hc]; exact hb
 ·have hkl:k < l.length:=by
   rcases Nat.lt_or_ge k l.length with p | p
   ·exact p
   ·rw [List.getElem?_eq_none p] at hk; cases hk
  have hki:i < k:=by
   rcases Nat.lt_trichotomy i k with p | p | p
   ·exact p
   ·subst p; omega
   ·have h1:=effs_mono (l:=l) (i:=k) i (by omega) (by omega); omega
  have h3:=D.mono hcl hgf hf (i:=i + 1) k hki (by omega)
  have h4:=D.mono hcl hgf hf (i:=k + 1) l.length hkl (Nat.le_refl _)
  rw [hmix,if_pos ⟨h3,by omega⟩]
  rw [add1_ne (by omega)] at hSk
  exact I.c2 k qk hk hek hSk (by omega) hNk c z hb
end
section
variable {os:Array Oper} {l:List RQ} {V:Nat→FT} {H:Nat→HT} {N:Nat→Nat} {R:Nat→RV} {csF:List CK} {hsF:List HT} {bf:List Nat}
variable (D:Dw P fl nt ys cl os l V H N R csF hsF bf)
variable {a0:Act} {m0:Mp} {w0:World} {S:Nat→Bool} {j:Nat} {Hc:HT} {m:Mp} {a:Act} {w:World}
variable (I:Inv P ρ g fl nt os l V H N R a0 m0 w0 S j Hc m a w)
include D I
theorem Inv.cov {k b:Nat} (hk:k≤l.length) (hj:effs l k=j) (hb:∀ k' q,k' < k→l[k']?=some q→isEf q=false→j≤effs l k'→N k'=b→N k' < N (k' + 1)→S k'=true) :
  ∀ y,y≤k→j≤effs l y→∀ c z,hg (H y) b=.bk c z→hg Hc b=.bk c z
 | 0,_,h,c,z,hx=>by
  have:effs l 0=0:=by cases l <;> rfl
  exact I.c1 0 (.inl ⟨rfl,by omega⟩) b c z hx
 | y + 1,hy,h,c,z,hx=>by
  have hq:=List.getElem?_eq_getElem (show y < l.length by omega)
  have h1:=effs_succ l y _ hq
  cases hef:isEf l[y] with
  | true=>
   rw [hef] at h1
   simp at h1
   have h2:=effs_mono (l:=l) (i:=y + 1) k hy hk
   exact I.c1 (y + 1) (.inr ⟨y,_,rfl,hq,hef,by omega⟩) b c z hx
  | false=>
   rw [hef] at h1
   simp at h1
   have ih:=Inv.cov hk hj hb y (by omega) (by omega)
   rcases D.quiet hq hef with ⟨e1,_⟩ | ⟨x,e1,e2⟩
   ·rw [e1] at hx; exact ih c z hx
   ·by_cases hby:b=N y
    ·subst hby
     exact I.c2 y _ hq hef (hb y _ (by omega) hq hef (by omega) rfl (by omega)) (by omega) (by omega) c z hx
    ·rw [e1] at hx
     rcases hg_hst (H y) x (N y) b with ⟨p,_⟩ | ⟨_,p⟩
     ·exact absurd p hby
     ·rw [p] at hx; exact ih c z hx
end
end Go.Rn
namespace Go.Rn
variable {ρ:Nat→Int} {P:Program}
variable {g fl nt:Nat} {ys:Ys} {cl:Cl'}
theorem lt_of_get {α:Type} {l:List α} {i:Nat} {q:α} (h:l[i]?=some q):i < l.length:=by
 rcases Nat.lt_or_ge i l.length with p | p
 ·exact p
 ·rw [List.getElem?_eq_none p] at h; cases h
theorem ef_cls {en:Nat} {d:D} {gq:G} {k:K3} {o:RP} (h:oneOk en (.q d gq k o)=true):isEf (.q d gq k o)=true ↔ cls o=.eff:=by
 cases hc:cls o <;> simp only [oneOk,hc] at h <;> cases k <;> first | (cases h; done) | simp [isEf]
section
variable {os:Array Oper} {l:List RQ} {V:Nat→FT} {H:Nat→HT} {N:Nat→Nat} {R:Nat→RV} {csF:List CK} {hsF:List HT} {bf:List Nat}
variable (D:Dw P fl nt ys cl os l V H N R csF hsF bf) (hcl:ClAb g cl) (hgf:g≤fl) (hf:fl≤N 0)
variable {a0:Act} {m0:Mp} {w0:World} {S:Nat→Bool} {j:Nat} {Hc:HT} {m:Mp} {a:Act} {w:World}
variable (I:Inv P ρ g fl nt os l V H N R a0 m0 w0 S j Hc m a w)
include D I
theorem Inv.turnE {i:Nat} {q:RQ} (hq:l[i]?=some q) (he:isEf q=true) (hi0:S i=false) (hup:Up os.toList S i):effs l i=j:=by
 have hi:=lt_of_get hq
 rcases Nat.lt_trichotomy (effs l i) j with p | p | p
 ·have:=(I.ej i q hq he).2 p; rw [hi0] at this; cases this
 ·exact p
 ·obtain ⟨e,qe,h1,h2,h3,h4⟩:=effs_ex (l:=l) (j:=j) i (by omega) p
  cases hSe:S e with
  | true=>have:=(I.ej e qe h2 h3).1 hSe; omega
  | false=>
   have h5:=D.pair I.shut h1 hup hSe h2 hq
   cases qe with
   | q d gq k o=>cases q with
    | q d' gq' k' o'=>
     have c1:=(ef_cls (D.one e h2)).1 h3
     have c2:=(ef_cls (D.one i hq)).1 he
     simp [pairRest,itOf,c1,c2] at h5
theorem Inv.allocs {i:Nat} {d:Go.Rn.D} {gq:G} {kd:K3} {o:RP} (hq:l[i]?=some (.q d gq kd o)) (hc:cls o=.eff ∨ (cls o=.load∧kd=.nm)) (hup:Up os.toList S i) :
  ∀ k' q,k' < i→l[k']?=some q→isEf q=false→N k' < N (k' + 1)→S k'=true:=by
 intro k' q hk hk' hek hN
 cases hS:S k' with
 | true=>rfl
 | false=>
  have h5:=D.pair I.shut hk hup hS hk' hq
  cases q with
  | q d' gq' k o'=>
   have hcl':cls o'=.alloc:=by
    have h1:=D.one k' hk'
    rcases D.turn k' hk' with ⟨_,_,_,h2⟩ | ⟨_,h2⟩
    ·omega
    ·cases hc':cls o' with
     | alloc=>rfl
     | eff=>rw [(ef_cls h1).2 hc'] at hek; cases hek
     | pure=>
      rcases pure_run (ys:=ys) (cl:=cl) (fl:=fl) (lim:=limOf k (N 0)) (t:=V k') hc' with ⟨v,h3⟩ | h3
      ·rw [h3] at h2; simp only [SR.ok.injEq] at h2; have:=h2.2.2; omega
      ·obtain ⟨b,h3⟩:=h3 (H k') (N k'); rw [h3] at h2; cases h2
     | load=>
      cases o' <;> first | (cases hc'; done) | skip
      obtain ⟨_,e2,_⟩:=step_load h2
      omega
   rcases hc with hc | ⟨hc,rfl⟩
   ·simp [pairRest,itOf,hcl',hc] at h5
   ·simp [pairRest,itOf,hcl',hc] at h5
theorem Inv.load {i:Nat} {d:Go.Rn.D} {gq:G} {kd:K3} {gg:Bool} {sz:Nat} {x:RO} (hq:l[i]?=some (.q d gq kd (.ld gg sz x))) (hi0:S i=false) (hup:Up os.toList S i) (hw:want (V i) gq=.y) (hmono:∀ k,k≤l.length→N 0≤N k) :
  ∃ b off c z,ev (V i) x=.p b off∧b < limOf kd (N 0)∧hg Hc b=.bk c z∧rdV gg sz c off=R i∧R i ≠ .un∧z ≠ MAPZ∧H (i + 1)=H i∧N (i + 1)=N i:=by
 have hi:=lt_of_get hq
 have hst:step (.ld gg sz x) ys cl fl (limOf kd (N 0)) (V i) (H i) (N i)=.ok (R i) (H (i + 1)) (N (i + 1))∧∀ p q,kd=.ck p q→∃ gg' s x' b off,RP.ld gg sz x=.ld gg' s x'∧ev (V i) x'=.p b off∧b < N 0∧CK.k p q b off gg' s (R i) ∈ csF:=by
  rcases D.run.turn i d gq kd _ hq with ⟨h1,_⟩ | ⟨_,h1,h2⟩
  ·rw [hw] at h1; cases h1
  ·exact ⟨h1,h2⟩
 obtain ⟨h1,h2⟩:=hst
 obtain ⟨e1,e2,b,off,c,z,e3,e4,e5,e6,e7,e8⟩:=step_load h1
 have hone:=D.one i hq
 have pq:∀ p q,(itOf i (bf.getD i 0) (effs l i) (.q d gq kd (.ld gg sz x))).p=p→(itOf i (bf.getD i 0) (effs l i) (.q d gq kd (.ld gg sz x))).q=q→p≤effs l i→effs l i≤q→p≤j∧j≤q:=by
  intro p q hp hq' hpE hqE
  constructor
  ·rcases Nat.lt_or_ge j p with r | r
   ·obtain ⟨e,qe,a1,a2,a3,a4⟩:=effs_ex (l:=l) (j:=j) i (by omega) (by omega)
    cases hSe:S e with
    | true=>have:=(I.ej e qe a2 a3).1 hSe; omega
    | false=>
     have h5:=D.pair I.shut a1 hup hSe a2 hq
     have c1:(itOf e (bf.getD e 0) (effs l e) qe).c=.eff:=by cases qe; exact (ef_cls (D.one e a2)).1 a3
     have c2:(itOf i (bf.getD i 0) (effs l i) (.q d gq kd (.ld gg sz x))).c=.load:=rfl
     have c3:(itOf e (bf.getD e 0) (effs l e) qe).en=effs l e:=by cases qe; rfl
     unfold pairRest at h5
     rw [c1,c2,hp,c3] at h5
     simp only [Bool.and_eq_true] at h5
     have:=ble_ok h5.2
     omega
   ·exact r
  ·rcases Nat.lt_or_ge q j with r | r
   ·obtain ⟨e,qe,a1,a2,a3,a4⟩:=effs_ex (l:=l) (j:=q) l.length (Nat.le_refl _) (Nat.lt_of_lt_of_le r I.je)
    have hSe:=(I.ej e qe a2 a3).2 (by omega)
    have hie:i < e:=by
     rcases Nat.lt_trichotomy i e with s | s | s
     ·exact s
     ·subst s
      rw [hq] at a2; cases a2
      have:=(ef_cls hone).1 a3
      cases this
     ·have:=effs_lt a2 a3 s (by omega); omega
    have h5:=D.pair I.shut hie (I.shut.up hSe) hi0 hq a2
    have c1:(itOf e (bf.getD e 0) (effs l e) qe).c=.eff:=by cases qe; exact (ef_cls (D.one e a2)).1 a3
    have c2:(itOf i (bf.getD i 0) (effs l i) (.q d gq kd (.ld gg sz x))).c=.load:=rfl
    have c3:(itOf e (bf.getD e 0) (effs l e) qe).en=effs l e:=by cases qe; rfl
    unfold pairRest at h5
    rw [c1,c2,hq',c3] at h5
    simp only [Bool.and_eq_true] at h5
    have:=ble_ok h5.2
    omega
   ·exact r
 have noEf:effs l i=j→∀ k' q,k' < i→l[k']?=some q→j≤effs l k'→isEf q=false:=fun hE k' q hk hk' hj=>by
  cases hef:isEf q with
  | false=>rfl
  | true=>have:=effs_lt hk' hef hk (by omega); omega
 refine ⟨b,off,?_⟩
 cases kd with
 | ef=>cases hone
 | nm=>
  have hE:=pq _ _ rfl rfl (Nat.le_refl _) (Nat.le_refl _)
  have hE2:effs l i=j:=Nat.le_antisymm hE.1 hE.2
  refine ⟨c,z,e3,e4,?_,e6,e7,e8,e1,e2⟩
  exact I.cov D (by omega) hE2 (fun k' q hk hk' hek _ _ hN=>I.allocs D hq (.inr ⟨rfl,rfl⟩) hup k' q hk hk' hek hN) i (Nat.le_refl _) (by omega) c z e5
 | lm=>
  have hE:=pq _ _ rfl rfl (Nat.le_refl _) (Nat.le_refl _)
  have hE2:effs l i=j:=Nat.le_antisymm hE.1 hE.2
  refine ⟨c,z,e3,e4,?_,e6,e7,e8,e1,e2⟩
  have e4':b < N 0:=e4
  exact I.cov D (by omega) hE2 (fun k' q hk hk' hek _ hb hN=>by have:=hmono k' (by omega); omega) i (Nat.le_refl _) (by omega) c z e5
 | ck p q=>
  have hpq:p≤effs l i∧effs l i≤q:=by
   have:(Nat.ble p (effs l i) && Nat.ble (effs l i) q)=true:=hone
   rw [Bool.and_eq_true] at this
   exact ⟨ble_ok this.1,ble_ok this.2⟩
  obtain ⟨hp,hq'⟩:=pq p q rfl rfl hpq.1 hpq.2
  obtain ⟨gg',s,x',b',off',hld,q1,q2,q3⟩:=h2 p q rfl
  cases hld
  rw [e3] at q1
  cases q1
  obtain ⟨xp,hxp,pre,suf,hsf,hlen⟩:∃ xp,((xp=0∧j=0) ∨ ∃ e qe,xp=e + 1∧l[e]?=some qe∧isEf qe=true∧effs l e + 1=j)∧∃ pre suf,hsF=pre ++ H xp::suf∧suf.length=j:=by
   rcases Nat.eq_zero_or_pos j with r | r
   ·obtain ⟨pre,hpre⟩:=D.hs0
    exact ⟨0,.inl ⟨rfl,r⟩,pre,[],hpre,r.symm⟩
   ·obtain ⟨e,qe,a1,a2,a3,a4⟩:=effs_ex (l:=l) (j:=j - 1) l.length (Nat.le_refl _) (by have:=I.je; omega)
    obtain ⟨pre,suf,a5,a6⟩:=D.hsE e qe a2 a3
    exact ⟨e + 1,.inr ⟨e,qe,rfl,a2,a3,by omega⟩,pre,suf,a5,by omega⟩
  have hck:=ckAll_ok (ckOver_ok D.ck pre (H xp) suf hsf) _ q3
  rw [hlen] at hck
  have hck2:Go.Rn.bf (Nat.ble p j) (Go.Rn.bf (Nat.ble j q) (gK false (hg (H xp) b) fun cs _=>eqV (rdV gg sz cs off) (R i)) true) true=true:=hck
  rw [show Nat.ble p j=true from Nat.ble_eq_true_of_le hp,show Nat.ble j q=true from Nat.ble_eq_true_of_le hq'] at hck2
  have hck3:gK false (hg (H xp) b) (fun cs _=>eqV (rdV gg sz cs off) (R i))=true:=hck2
  obtain ⟨c',z',hb',hv⟩:=gK_ok hck3 (by simp)
  exact ⟨c',z',e3,e4,I.c1 xp hxp b c' z' hb',eqV_ok _ _ hv,e7,gK_mz hck3 (by simp) hb',e1,e2⟩
end
section
variable {os:Array Oper} {l:List RQ} {V:Nat→FT} {H:Nat→HT} {N:Nat→Nat} {R:Nat→RV} {csF:List CK} {hsF:List HT} {bf:List Nat}
variable (D:Dw P fl nt ys cl os l V H N R csF hsF bf) (hy:YsOk ρ ys) (hcl:ClOk P ρ g cl) (hgf:g≤fl) (hf:fl≤N 0)
variable {a0:Act} {m0:Mp} {w0:World} (s0:Sim P ρ m0 g (H 0) w0) (f0:Fresh (N 0) (N l.length) m0)
include D hy hcl hgf hf s0 f0
theorem Dw.next {S:Nat→Bool} {j:Nat} {Hc:HT} {m:Mp} {a:Act} {w:World} (I:Inv P ρ g fl nt os l V H N R a0 m0 w0 S j Hc m a w) {i:Nat} {o:Oper} (ho:os[i]?=some o) (hi0:S i=false) (hup:Up os.toList S i)
  {r:Option Nat} {K:Act→World→Prop} {Q:Exit→Act→World→Prop} (hK:∀ j' Hc' m' a' w',Inv P ρ g fl nt os l V H N R a0 m0 w0 (add1 S i) j' Hc' m' a' w'→K a' w'):wpOpIn (WF r) 0 P os Q i K a w:=by
 have hca:=hcl.ab
 obtain ⟨kd,hq⟩:=D.get i o ho
 have hi:=lt_of_get hq
 have hmono:∀ k,k≤l.length→N 0≤N k:=fun k hk=>D.mono hca hgf hf (i:=0) k (Nat.zero_le _) hk
 unfold compQ at hq
 split at hq
 case h_2=>
  rcases D.turn i hq with ⟨h1,_⟩ | ⟨_,h1⟩
  ·cases h1
  ·exact (step_bad h1).elim
 case h_1 d gq hd hgq=>
  have hdO:dOf l i=d:=by unfold dOf; rw [hq]
  have hrO:rOf l i=rdm ((compOp P nt o.op).getD badP) ||| gm gq:=by unfold rOf; rw [hq]
  have hd':compDst nt o.dst=some (dOf l i):=by rw [hdO]; exact hd
  have ag:Ag (ts l (V 0) R S l.length) (V i) (rOf l i):=fun p hp=>by
   unfold tg
   rw [getP_eq,getP_eq]
   have:=D.ts_read I.shut hi hup hi0 hp l.length (Nat.le_refl _)
   rwa [show min l.length i=i by omega] at this
  rw [hrO] at ag
  have cov:∀ {k'},effs l i=j→(∀ k' q,k' < i→l[k']?=some q→isEf q=false→N k' < N (k' + 1)→S k'=true)→k'=i→∀ b c z,hg (H k') b=.bk c z→hg Hc b=.bk c z:=by
   rintro k' hE hal rfl b c z hb
   exact I.cov D (by omega) hE (fun k2 q h1 h2 h3 _ _ h4=>hal k2 q h1 h2 h3 h4) _ (Nat.le_refl _) (by omega) c z hb
  have hEf:isEf (.q d gq kd ((compOp P nt o.op).getD badP))=true ↔ cls ((compOp P nt o.op).getD badP)=.eff:=ef_cls (D.one i hq)
  have dead:∀ b c z,N i≤b→b < N (i + 1)→hg Hc b ≠ .bk c z:=fun b c z h1 h2 hb=>by
   obtain ⟨B',O,Z,q1,_⟩:=I.tr.sim.cell b c z hb
   rw [I.fresh i hi hi0 b h1 h2] at q1; cases q1
  unfold wpOpIn
  rw [ho]
  rcases D.turn i hq with ⟨h1,h2,h3,h4⟩ | ⟨h1,h2⟩
  ·-- not wanted
   have hw:=want_n (o:=o) (os:=os) I.fr hgq (by rw [want_congr ag.r]; exact h1)
   simp only [hw]
   refine ⟨fun _ _=>trivial,?_⟩
   show K (a.put o.dst undef) w
   cases hef:isEf (.q d gq kd ((compOp P nt o.op).getD badP)) with
   | false=>exact hK _ _ _ _ _ (I.quiet D hca hgf hf hq hef hi0 hup (by rw [h4]; exact Tr.refl I.tr.sim) hd' (by rw [h2]; rfl) (fun _ _ _ h=>h) (fun h=>by omega))
   | true=>
    have hE:=I.turnE D hq hef hi0 hup
    have sub:=cov hE (I.allocs D hq (.inl (hEf.1 hef)) hup) rfl
    refine hK _ _ _ _ _ (I.eff D hca hgf hf hq hef hi0 hup hE s0 f0 sub (m':=m) (w':=w) (u:=undef) ?_ hd' (by rw [h2]; rfl))
    rw [h3,h4]
    exact Tr.refl (I.tr.sim.sub sub)
  ·have hw:=want_y (o:=o) (os:=os) I.fr hgq (by rw [want_congr ag.r]; exact h1)
   simp only [hw,if_true]
   cases hc:compOp P nt o.op with
   | none=>rw [hc] at h2; exact (step_bad h2).elim
   | some rp=>
    rw [hc] at h2 hEf hq ag
    have hEf:isEf (.q d gq kd rp)=true ↔ cls rp=.eff:=hEf
    have h2:step rp ys cl fl (limOf kd (N 0)) (V i) (H i) (N i)=.ok (R i) (H (i + 1)) (N (i + 1)):=h2
    have hq:l[i]?=some (.q d gq kd rp):=hq
    have agr:Ag (ts l (V 0) R S l.length) (V i) (rdm rp):=ag.l
    have hfi:fl≤N i:=Nat.le_trans hf (hmono i (by omega))
    cases hef:isEf (.q d gq kd rp) with
    | true=>
     have hE:=I.turnE D hq hef hi0 hup
     have sub:=cov hE (I.allocs D hq (.inl (hEf.1 hef)) hup) rfl
     have h5:step rp ys cl fl (limOf kd (N 0)) (ts l (V 0) R S l.length) (H i) (N i)=.ok (R i) (H (i + 1)) (N (i + 1)):=by rw [step_congr agr]; exact h2
     obtain ⟨_,hop⟩:=step_ok (o:=o) hy hcl I.fr (I.tr.sim.sub sub) hgf hfi hc h5
     refine hop (I.fresh i hi hi0) K Q (fun u w' m' B hu=>?_) r
     exact hK _ _ _ _ _ (I.eff D hca hgf hf hq hef hi0 hup hE s0 f0 sub B hd' hu)
    | false=>
     obtain ⟨Hc',h5,sup,hnew⟩:∃ Hc',step rp ys cl fl (limOf kd (N 0)) (ts l (V 0) R S l.length) Hc (N i)=.ok (R i) Hc' (N (i + 1))∧(∀ b c z,hg Hc b=.bk c z→hg Hc' b=.bk c z)∧(N i < N (i + 1)→∀ c z,hg (H (i + 1)) (N i)=.bk c z→hg Hc' (N i)=.bk c z):=by
      cases hcs:cls rp with
      | eff=>rw [hEf.2 hcs] at hef; cases hef
      | pure=>
       rcases pure_run (ys:=ys) (cl:=cl) (fl:=fl) (lim:=limOf kd (N 0)) (t:=V i) hcs with ⟨v,h6⟩ | h6
       ·have h7:=h2
        rw [h6] at h7
        simp only [SR.ok.injEq] at h7
        refine ⟨Hc,?_,fun _ _ _ h=>h,fun h=>by have:=h7.2.2; omega⟩
        rw [step_congr agr,h6,h7.1,h7.2.2]
       ·obtain ⟨b,h6⟩:=h6 (H i) (N i); rw [h6] at h2; cases h2
      | load=>
       cases rp <;> first | (cases hcs; done) | skip
       case ld gg sz x=>
        obtain ⟨b,off,c,z,q1,q2,q3,q4,q5,q8,q6,q7⟩:=I.load D hq hi0 hup h1 hmono
        refine ⟨Hc,?_,fun _ _ _ h=>h,fun h=>by omega⟩
        rw [step_congr agr,q7]
        exact load_step q1 q2 q3 q4 q5 q8
      | alloc=>
       rcases alloc_run (ys:=ys) (cl:=cl) (fl:=fl) (lim:=limOf kd (N 0)) (t:=V i) hcs with ⟨f,x,h6⟩ | h6
       ·have h7:=h2
        rw [h6] at h7
        simp only [SR.ok.injEq] at h7
        have hNN:=D.mono hca hgf hf (i:=i + 1) l.length hi (Nat.le_refl _)
        have hlt:N i < 8388608:=by have:=D.small; have:=h7.2.2; omega
        refine ⟨hst Hc x (N i),?_,fun b c z hb=>?_,fun _ c z hb=>?_⟩
        ·rw [step_congr agr,h6,h7.1,h7.2.2]
        ·rcases hg_hst Hc x (N i) b with ⟨p,_⟩ | ⟨_,p⟩
         ·subst p; exact absurd hb (dead _ c z (Nat.le_refl _) (by have:=h7.2.2; omega))
         ·rw [p]; exact hb
        ·rw [hg_hst_in _ _ _ hlt]
         rw [← h7.2.1,hg_hst_in _ _ _ hlt] at hb
         exact hb
       ·obtain ⟨b,h6⟩:=h6 (H i) (N i); rw [h6] at h2; cases h2
     obtain ⟨_,hop⟩:=step_ok (o:=o) hy hcl I.fr I.tr.sim hgf hfi hc h5
     refine hop (I.fresh i hi hi0) K Q (fun u w' m' B hu=>?_) r
     exact hK _ _ _ _ _ (I.quiet D hca hgf hf hq hef hi0 hup B hd' hu sup hnew)
end
end Go.Rn
