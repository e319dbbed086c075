/-
  One text of a symbolic evaluator over the model, shown sound once for every program: no statement is claimed here.
-/
import Derived.Test.YthfaoceleaaepaaGreatDoorRnV
import Derived.Orders
namespace Go.Rn
variable {P:Program} {fl n lim:Nat} {h:HT} {t t':FT} {ys:Ys} {cl:Cl'}
def Ag (t t':FT) (k:Nat):Prop:=∀ p:Pa,k.testBit p.val=true→tg t p=tg t' p
theorem Ag.l {a b:Nat} (e:Ag t t' (a ||| b)):Ag t t' a:=fun p hp=>e p (by rw [Nat.testBit_or,hp]; rfl)
theorem Ag.r {a b:Nat} (e:Ag t t' (a ||| b)):Ag t t' b:=fun p hp=>e p (by rw [Nat.testBit_or,hp,Bool.or_true])
theorem paN_eq:∀ p:Pa,paN p=p.val
 | .z=>rfl
 | .o p=>by show 2 * paN p=2 * p.val; rw [paN_eq p]
 | .i p=>by show 2 * paN p + 1=2 * p.val + 1; rw [paN_eq p]
theorem bit_self (p:Pa):(2 ^ paN p).testBit p.val=true:=by rw [paN_eq]; exact Nat.testBit_two_pow_self
theorem bit_of {p:Pa} {k:Nat} (h:(2 ^ paN p).testBit k=true):k=p.val:=by
 rw [paN_eq,Nat.testBit_two_pow] at h
 exact (by simpa using h:p.val=k).symm
theorem ev_congr {x:RO} (e:Ag t t' (ro x)):ev t x=ev t' x:=by
 cases x with
 | t p=>exact e p (bit_self p)
 | c v=>rfl
theorem evL_congr:∀ {l:List RO},Ag t t' (roL l)→evL t l=evL t' l
 | [],_=>rfl
 | x::l,e=>by
  show kons (ev t x) (evL t l)=kons (ev t' x) (evL t' l)
  rw [ev_congr e.l,evL_congr e.r]
theorem fillP_congr:∀ {l:List (Nat × Nat × RO)},Ag t t' (roP l)→∀ z,fillP t l z=fillP t' l z
 | [],_,_=>rfl
 | x::l,e,z=>by
  show gC .un (ev t x.2.2) (fun c=>gO .un (chLen c) fun m=>bf (Nat.beq m x.2.1) (nU .un (patch z c x.1) (fillP t l)) .un)=gC .un (ev t' x.2.2) (fun c=>gO .un (chLen c) fun m=>bf (Nat.beq m x.2.1) (nU .un (patch z c x.1) (fillP t' l)) .un)
  have:fillP t l=fillP t' l:=funext fun z=>fillP_congr e.r z
  rw [ev_congr e.l,this]
theorem optN_congr {x:Option RO} (e:Ag t t' (roO x)) (d:Nat):optN t x d=optN t' x d:=by
 cases x with
 | none=>rfl
 | some x=>
  show gI none (ev t x) _=gI none (ev t' x) _
  rw [ev_congr e]
theorem want_congr {q:G} (e:Ag t t' (gm q)):want t q=want t' q:=by
 cases q with
 | no=>rfl
 | g p w=>
  show (match tg t p with | .b x=>bf (eqB x w) W3.y .n | .ud=>.n | _=>.u)=(match tg t' p with | .b x=>bf (eqB x w) W3.y .n | .ud=>.n | _=>.u)
  rw [e p (bit_self p)]
theorem step_congr {o:RP} (e:Ag t t' (rdm o)):step o ys cl fl lim t h n=step o ys cl fl lim t' h n:=by
 cases o with
 | mv x=>show stMv x ys cl fl lim t h n=stMv x ys cl fl lim t' h n; simp only [stMv,ev_congr e]
 | pick c a b=>show stPick c a b ys cl fl lim t h n=stPick c a b ys cl fl lim t' h n; simp only [stPick,ev_congr e.l.l,ev_congr e.l.r,ev_congr e.r]
 | al z=>rfl
 | bx x=>show stBx x ys cl fl lim t h n=stBx x ys cl fl lim t' h n; simp only [stBx,ev_congr e]
 | bd z ps=>show stBd z ps ys cl fl lim t h n=stBd z ps ys cl fl lim t' h n; simp only [stBd,fillP_congr e]
 | bs z k ps=>show stBs z k ps ys cl fl lim t h n=stBs z k ps ys cl fl lim t' h n; simp only [stBs,fillP_congr e]
 | ld gg m a=>show stLd gg m a ys cl fl lim t h n=stLd gg m a ys cl fl lim t' h n; simp only [stLd,ev_congr e]
 | st m a v=>show stSt m a v ys cl fl lim t h n=stSt m a v ys cl fl lim t' h n; simp only [stSt,ev_congr e.l,ev_congr e.r]
 | nc x=>show stNc x ys cl fl lim t h n=stNc x ys cl fl lim t' h n; simp only [stNc,ev_congr e]
 | bn op x y=>show stBn op x y ys cl fl lim t h n=stBn op x y ys cl fl lim t' h n; simp only [stBn,ev_congr e.l,ev_congr e.r]
 | bq k x y=>show stBq k x y ys cl fl lim t h n=stBq k x y ys cl fl lim t' h n; simp only [stBq,ev_congr e.l,ev_congr e.r]
 | se ks a x y=>show stSe ks a x y ys cl fl lim t h n=stSe ks a x y ys cl fl lim t' h n; simp only [stSe,ev_congr e.l,ev_congr e.r]
 | nq a b x y=>show stNq a b x y ys cl fl lim t h n=stNq a b x y ys cl fl lim t' h n; simp only [stNq,ev_congr e.l,ev_congr e.r]
 | ng x=>show stNg x ys cl fl lim t h n=stNg x ys cl fl lim t' h n; simp only [stNg,ev_congr e]
 | nt x=>show stNt x ys cl fl lim t h n=stNt x ys cl fl lim t' h n; simp only [stNt,ev_congr e]
 | cv k x=>show stCv k x ys cl fl lim t h n=stCv k x ys cl fl lim t' h n; simp only [stCv,ev_congr e]
 | mf f cs=>show stMf f cs ys cl fl lim t h n=stMf f cs ys cl fl lim t' h n; simp only [stMf,evL_congr e]
 | ms z l c=>show stMs z l c ys cl fl lim t h n=stMs z l c ys cl fl lim t' h n; simp only [stMs,ev_congr e.l,ev_congr e.r]
 | sc es x lo hi mx=>
  show stSc es x lo hi mx ys cl fl lim t h n=stSc es x lo hi mx ys cl fl lim t' h n
  have e4:∀ m,mx=some m→optN t (some m) 0=optN t' (some m) 0:=fun m q=>by subst q; exact optN_congr e.r 0
  simp only [stSc,ev_congr e.l.l.l,optN_congr e.l.l.r,optN_congr e.l.r]
  cases mx with
  | none=>rfl
  | some m=>
   show gO (SR.bad [35]) (slLen (ev t' x)) (fun l=>gO (SR.bad [36]) (optN t' lo 0) fun a=>gO (SR.bad [37]) (optN t' hi l) fun b=>gO (SR.bad [39]) (optN t (some m) 0) fun m=>okV (slV es (ev t' x) a b (some m)) h n 38)=_
   simp only [e4 m rfl]
   rfl
 | ss x lo hi=>show stSs x lo hi ys cl fl lim t h n=stSs x lo hi ys cl fl lim t' h n; simp only [stSs,ev_congr e.l.l,optN_congr e.l.r,optN_congr e.r]
 | sa k es x lo hi=>show stSa k es x lo hi ys cl fl lim t h n=stSa k es x lo hi ys cl fl lim t' h n; simp only [stSa,ev_congr e.l.l,optN_congr e.l.r,optN_congr e.r]
 | fa k x=>show stFa k x ys cl fl lim t h n=stFa k x ys cl fl lim t' h n; simp only [stFa,ev_congr e]
 | fd a b c x=>show stFd a b c x ys cl fl lim t h n=stFd a b c x ys cl fl lim t' h n; simp only [stFd,ev_congr e]
 | ia es x i=>show stIa es x i ys cl fl lim t h n=stIa es x i ys cl fl lim t' h n; simp only [stIa,ev_congr e.l,ev_congr e.r]
 | ip k es x i=>show stIp k es x i ys cl fl lim t h n=stIp k es x i ys cl fl lim t' h n; simp only [stIp,ev_congr e.l,ev_congr e.r]
 | ix gg k es x i=>show stIx gg k es x i ys cl fl lim t h n=stIx gg k es x i ys cl fl lim t' h n; simp only [stIx,ev_congr e.l,ev_congr e.r]
 | sx x i=>show stSx x i ys cl fl lim t h n=stSx x i ys cl fl lim t' h n; simp only [stSx,ev_congr e.l,ev_congr e.r]
 | ex k x=>show stEx k x ys cl fl lim t h n=stEx k x ys cl fl lim t' h n; simp only [stEx,ev_congr e]
 | cl f as=>show stCl f as ys cl fl lim t h n=stCl f as ys cl fl lim t' h n; simp only [stCl,evL_congr e]
 | cf x as=>show stCf x as ys cl fl lim t h n=stCf x as ys cl fl lim t' h n; simp only [stCf,ev_congr e.l,evL_congr e.r]
 | ln k x=>show stLn k x ys cl fl lim t h n=stLn k x ys cl fl lim t' h n; simp only [stLn,ev_congr e]
 | cp x=>show stCp x ys cl fl lim t h n=stCp x ys cl fl lim t' h n; simp only [stCp,ev_congr e]
 | ap es x y=>show stAp es x y ys cl fl lim t h n=stAp es x y ys cl fl lim t' h n; simp only [stAp,ev_congr e.l,ev_congr e.r]
 | cy es x y=>show stCy es x y ys cl fl lim t h n=stCy es x y ys cl fl lim t' h n; simp only [stCy,ev_congr e.l,ev_congr e.r]
 | mm b x y=>show stMm b x y ys cl fl lim t h n=stMm b x y ys cl fl lim t' h n; simp only [stMm,ev_congr e.l,ev_congr e.r]
 | cr z x=>show stCr z x ys cl fl lim t h n=stCr z x ys cl fl lim t' h n; simp only [stCr,ev_congr e]
 | mk=>rfl
 | fg=>rfl
 | ta ty z two x=>show stTa ty z two x ys cl fl lim t h n=stTa ty z two x ys cl fl lim t' h n; simp only [stTa,ev_congr e]
 | pq neg x y=>show stPq neg x y ys cl fl lim t h n=stPq neg x y ys cl fl lim t' h n; simp only [stPq,ev_congr e.l,ev_congr e.r]
 | b2 st x=>show stB2 st x ys cl fl lim t h n=stB2 st x ys cl fl lim t' h n; simp only [stB2,ev_congr e]
 | iv l x as=>show stIv l x as ys cl fl lim t h n=stIv l x as ys cl fl lim t' h n; simp only [stIv,ev_congr e.l,evL_congr e.r]
 | az es z x y=>show stAz es z x y ys cl fl lim t h n=stAz es z x y ys cl fl lim t' h n; simp only [stAz,ev_congr e.l,ev_congr e.r]
 | mi q m k x=>show stMi q m k x ys cl fl lim t h n=stMi q m k x ys cl fl lim t' h n; simp only [stMi,ev_congr e.l.l,ev_congr e.l.r,ev_congr e.r]
 | ml q z two m k=>show stMl q z two m k ys cl fl lim t h n=stMl q z two m k ys cl fl lim t' h n; simp only [stMl,ev_congr e.l,ev_congr e.r]
/-! ### who comes before whom -/
def Shut (os:List Oper) (S:Nat→Bool):Prop:=∀ z,S z=true→∀ o,os[z]?=some o→∀ e ∈ o.after,Region.binds .any e=true→S e.on=true
def Sure (os:List Oper) (y k:Nat):Prop:=∀ S:Nat→Bool,Shut os S→(∀ o,os[y]?=some o→∀ e ∈ o.after,Region.binds .any e=true→S e.on=true)→∀ x,k.testBit x=true→S x=true
theorem mask_ok {acc:Array Nat}:∀ (l:List Edge) (s0:Nat) (x:Nat),(l.foldl (fun s e=>if Region.binds .any e then s ||| 2 ^ e.on ||| acc.getD e.on 0 else s) s0).testBit x=true →
  s0.testBit x=true ∨ ∃ e ∈ l,Region.binds .any e=true∧(x=e.on ∨ (acc.getD e.on 0).testBit x=true)
 | [],s0,x,h=>.inl h
 | e::l,s0,x,h=>by
  rw [List.foldl_cons] at h
  rcases mask_ok l _ x h with h1 | ⟨e',h1,h2⟩
  ·by_cases hb:Region.binds .any e=true
   ·rw [if_pos hb,Nat.testBit_or,Nat.testBit_or] at h1
    simp only [Bool.or_eq_true] at h1
    rcases h1 with (h1 | h1) | h1
    ·exact .inl h1
    ·refine .inr ⟨e,List.mem_cons_self,hb,.inl ?_⟩
     rw [Nat.testBit_two_pow] at h1
     exact (by simpa using h1:e.on=x).symm
    ·exact .inr ⟨e,List.mem_cons_self,hb,.inr h1⟩
   ·rw [if_neg hb] at h1; exact .inl h1
  ·exact .inr ⟨e',List.mem_cons_of_mem _ h1,h2⟩
theorem before_go (os:List Oper):∀ (l pre:List Oper) (acc:Array Nat),os=pre ++ l→acc.size=pre.length→(∀ y,y < acc.size→Sure os y (acc.getD y 0)) →
  let r:=l.foldl (fun acc o=>acc.push (o.after.foldl (fun s e=>if Region.binds .any e then s ||| 2 ^ e.on ||| acc.getD e.on 0 else s) 0)) acc
  r.size=os.length∧∀ y,y < r.size→Sure os y (r.getD y 0)
 | [],pre,acc,h1,h2,h3=>⟨by simp [h1,h2],h3⟩
 | o::l,pre,acc,h1,h2,h3=>by
  refine before_go os l (pre ++ [o]) _ (by simp [h1]) (by simp [h2]) fun y hy=>?_
  by_cases hyl:y < acc.size
  ·have:=h3 y hyl
   rw [Array.getD_eq_getD_getElem?,Array.getElem?_push_lt hyl]
   simpa [Array.getD_eq_getD_getElem?,hyl] using this
  ·have hye:y=acc.size:=by rw [Array.size_push] at hy; omega
   subst hye
   rw [Array.getD_eq_getD_getElem?,Array.getElem?_push_size]
   intro S hS hd x hx
   have ho:os[acc.size]?=some o:=by rw [h1,h2]; simp
   rw [Option.getD_some,← Array.foldl_toList] at hx
   rcases mask_ok _ _ x hx with q | ⟨e,he,hb,q⟩
   ·simp at q
   ·have hon:=hd o ho e (by simpa using he) hb
    rcases q with rfl | q
    ·exact hon
    ·have hlt:e.on < acc.size:=by
      rcases Nat.lt_or_ge e.on acc.size with p | p
      ·exact p
      ·rw [Array.getD_eq_getD_getElem?,Array.getElem?_eq_none p] at q; simp at q
     exact h3 _ hlt S hS (fun o' ho' e' he' hb'=>hS _ hon o' ho' e' he' hb') x q
theorem before_ok (os:Array Oper):(Region.before os).size=os.size∧∀ y,y < os.size→Sure os.toList y ((Region.before os).toList.getD y 0):=by
 have h:=before_go os.toList os.toList [] #[] rfl rfl (fun y hy=>by simp at hy)
 have e:Region.before os=os.toList.foldl (fun acc o=>acc.push (o.after.foldl (fun s e=>if Region.binds .any e then s ||| 2 ^ e.on ||| acc.getD e.on 0 else s) 0)) #[]:=by
  unfold Region.before
  rw [← Array.foldl_toList]
 rw [← e] at h
 refine ⟨by simpa using h.1,fun y hy=>?_⟩
 have:=h.2 y (by rw [h.1]; simpa using hy)
 simpa [Array.getD_eq_getD_getElem?,List.getD_eq_getElem?_getD] using this
/-! ### the check's word -/
theorem items_get:∀ (l:List RQ) (bfs:List Nat) (ix en i:Nat) (q:RQ),l[i]?=some q→(items l bfs ix en)[i]?=some (itOf (ix + i) (bfs.getD i 0) (en + effs l i) q)
 | [],_,_,_,_,_,h=>by simp at h
 | x::l,bfs,ix,en,0,q,h=>by
  have:x=q:=by simpa using h
  subst this
  show some (itOf ix (bfs.headD 0) en x)=_
  cases bfs <;> simp [effs]
 | x::l,bfs,ix,en,i + 1,q,h=>by
  have:=items_get l bfs.tail (ix + 1) (if isEf x then en + 1 else en) i q (by simpa using h)
  show (items l bfs.tail (ix + 1) (if isEf x then en + 1 else en))[i]?=_
  rw [this]
  have e1:ix + 1 + i=ix + (i + 1):=by omega
  have e2:(if isEf x=true then en + 1 else en) + effs l i=en + effs (x::l) (i + 1):=by
   simp only [effs]; split <;> omega
  have e3:bfs.tail.getD i 0=bfs.getD (i + 1) 0:=by cases bfs <;> simp
  rw [e1,e2,e3]
theorem pairs_get:∀ {l:List It},pairsOk l=true→∀ (i j:Nat) (x y:It),i < j→l[i]?=some x→l[j]?=some y→pairOk x y=true
 | [],_,i,j,x,y,_,h,_=>by simp at h
 | z::l,e,i,j,x,y,hij,hx,hy=>by
  simp only [pairsOk,Bool.and_eq_true] at e
  cases j with
  | zero=>omega
  | succ j=>
   cases i with
   | zero=>
    have:z=x:=by simpa using hx
    subst this
    exact List.all_eq_true.1 e.1 y (List.mem_of_getElem? (by simpa using hy))
   | succ i=>exact pairs_get e.2 i j x y (by omega) (by simpa using hx) (by simpa using hy)
theorem ones_get:∀ (l:List RQ) (en i:Nat) (q:RQ),onesOk l en=true→l[i]?=some q→oneOk (en + effs l i) q=true
 | [],_,_,_,_,h=>by simp at h
 | x::l,en,0,q,e,h=>by
  simp only [onesOk,Bool.and_eq_true] at e
  have:x=q:=by simpa using h
  subst this
  simpa [effs] using e.1
 | x::l,en,i + 1,q,e,h=>by
  simp only [onesOk,Bool.and_eq_true] at e
  have:=ones_get l _ i q e.2 (by simpa using h)
  have e2:(if isEf x=true then en + 1 else en) + effs l i=en + effs (x::l) (i + 1):=by
   simp only [effs]; split <;> omega
  rw [e2] at this
  exact this
theorem back_get:∀ (l:List Oper) (k i:Nat) (o:Oper),backOk l k=true→l[i]?=some o→∀ e ∈ o.after,Region.binds .any e=true→e.on < k + i
 | [],_,_,_,_,h,_,_,_=>by simp at h
 | x::l,k,0,o,e,h,ed,he,hb=>by
  simp only [backOk,Bool.and_eq_true] at e
  have:x=o:=by simpa using h
  subst this
  have h1:=(Array.all_eq_true_iff_forall_mem.1 e.1) ed he
  simp only [hb,Bool.not_true,Bool.false_or] at h1
  have:=ble_ok h1
  omega
 | x::l,k,i + 1,o,e,h,ed,he,hb=>by
  simp only [backOk,Bool.and_eq_true] at e
  have:=back_get l (k + 1) i o e.2 (by simpa using h) ed he hb
  omega
theorem effs_succ:∀ (l:List RQ) (i:Nat) (q:RQ),l[i]?=some q→effs l (i + 1)=effs l i + (if isEf q then 1 else 0)
 | [],_,_,h=>by simp at h
 | x::l,0,q,h=>by
  have:x=q:=by simpa using h
  subst this
  cases l <;> simp [effs]
 | x::l,i + 1,q,h=>by
  have:=effs_succ l i q (by simpa using h)
  show (if isEf x then 1 else 0) + effs l (i + 1)=(if isEf x then 1 else 0) + effs l i + _
  rw [this]; omega
end Go.Rn
namespace Go.Rn
variable {ρ:Nat→Int} {P:Program}
variable {g fl nt:Nat} {ys:Ys} {cl:Cl'}
/-! ### heaps laid together -/
noncomputable def hput (h:HT) (x:RB) (b:Nat):HT:=T.setP .no h x (pa (b + 2) (b + 1))
theorem hg_hput (h:HT) (x:RB) (b j:Nat):hg (hput h x b) j=if j=b then x else hg h j:=by
 unfold hput hg
 have hlt:b + 1 < 2 ^ (b + 2):=by
  have:b + 2 < 2 ^ (b + 2):=Nat.lt_two_pow_self
  omega
 rw [setP_get,pa_val (b + 2) (b + 1) (by omega) hlt]
 by_cases hj:j=b
 ·subst hj; simp
 ·rw [if_neg hj,if_neg (by omega)]
noncomputable def mixN (h k:HT) (lo:Nat):Nat→HT
 | 0=>h
 | c + 1=>hput (mixN h k lo c) (hg k (lo + c)) (lo + c)
theorem hg_mixN (h k:HT) (lo j:Nat):∀ c,hg (mixN h k lo c) j=if lo≤j∧j < lo + c then hg k j else hg h j
 | 0=>by rw [if_neg (by omega)]; rfl
 | c + 1=>by
  show hg (hput (mixN h k lo c) (hg k (lo + c)) (lo + c)) j=_
  rw [hg_hput,hg_mixN h k lo j c]
  by_cases h1:j=lo + c
  ·subst h1; rw [if_pos rfl,if_pos (by omega)]
  ·rw [if_neg h1]
   by_cases h2:lo≤j∧j < lo + c
   ·rw [if_pos h2,if_pos (by omega)]
   ·rw [if_neg h2,if_neg (by omega)]
theorem hg_hst_in (h:HT) (x:RB) (b:Nat) (hb:b < 8388608):hg (hst h x b) b=x:=by
 unfold hg hst
 exact get_set_in _ _ _ _ (Nat.succ_le_succ (Nat.zero_le b)) (Nat.lt_trans (Nat.succ_lt_succ hb) (by decide))
theorem Sim.mix {n n1 n2:Nat} {h h1 h2 h3:HT} {m m1:Mp} {w w1:World} (hgf:g≤fl) (hgn:g≤n) (s:Sim P ρ m g h w) (sub:∀ b c z,hg h1 b=.bk c z→hg h b=.bk c z) (B:Tr P ρ g fl h1 n m w h2 n1 m1 w1) (ab:Ab fl h1 n h2 n1) (le:Le m m1)
  (hD:∀ b c z,n1≤b→b < n2→hg h1 b ≠ .bk c z) (e:∀ b,hg h3 b=if n1≤b∧b < n2 then hg h b else hg h2 b):Sim P ρ m1 g h3 w1:=by
 have hnn:=ab.le
 have row:∀ b c z B' O Z,n1≤b→b < n2→hg h b=.bk c z→m b=some (B',O,Z)→w1.heap[B']?=w.heap[B']?:=by
  intro b c z B' O Z h4 h5 hb hm
  refine B.keep.block B' (s.lt hb hm) fun b0 c0 z0 O0 Z0 hf0 hb0 hm0=>?_
  have:=s.inj' (sub _ _ _ hb0) hb hm0 hm (.inl (Nat.le_trans hgf hf0))
  subst this
  exact hD _ _ _ h4 h5 hb0
 have apart:∀ b1 c1 z1 b2 c2 z2 B' O1 Z1 O2 Z2,n1≤b2→b2 < n2→hg h2 b1=.bk c1 z1→hg h b2=.bk c2 z2→m1 b1=some (B',O1,Z1)→m1 b2=some (B',O2,Z2)→False:=by
  intro b1 c1 z1 b2 c2 z2 B' O1 Z1 O2 Z2 h4 h5 hb1 hb2 hm1 hm2
  have hm2':m b2=some (B',O2,Z2):=by rw [← B.ext b2 (.inr h4)]; exact hm2
  rcases Nat.lt_or_ge b1 fl with p | p
  ·have hb1':hg h1 b1=.bk c1 z1:=by rw [← ab.old b1 p]; exact hb1
   have hb1s:=sub _ _ _ hb1'
   obtain ⟨B0,O0,Z0,q1,_⟩:=s.cell _ _ _ hb1s
   have hm1':=le _ _ q1
   rw [hm1] at hm1'
   cases hm1'
   have:=s.inj' hb1s hb2 q1 hm2' (.inr (by omega))
   subst this
   exact hD _ _ _ h4 h5 hb1'
  ·rcases B.orig b1 c1 z1 B' O1 Z1 p hb1 hm1 with q | ⟨b0,c0,z0,O0,Z0,q0,q1,q2⟩
   ·have:=s.lt hb2 hm2'; omega
   ·have:=s.inj' (sub _ _ _ q1) hb2 q2 hm2' (.inl (Nat.le_trans hgf q0))
    subst this
    exact hD _ _ _ h4 h5 q1
 refine ⟨fun b c z hb=>?_,fun b b' c z c' z' B' O Z O' Z' hb hb' hm hm'=>?_⟩
 ·rw [e] at hb
  by_cases hc:n1≤b∧b < n2
  ·rw [if_pos hc] at hb
   obtain ⟨B',O,Z,q1,q2⟩:=s.cell b c z hb
   exact ⟨B',O,Z,le _ _ q1,q2.move (row b c z B' O Z hc.1 hc.2 hb q1) le⟩
  ·rw [if_neg hc] at hb
   exact B.sim.cell b c z hb
 ·rw [e] at hb hb'
  by_cases hc:n1≤b∧b < n2 <;> by_cases hc':n1≤b'∧b' < n2
  ·rw [if_pos hc] at hb
   rw [if_pos hc'] at hb'
   exact s.inj b b' c z c' z' B' O Z O' Z' hb hb' (by rw [← B.ext b (.inr hc.1)]; exact hm) (by rw [← B.ext b' (.inr hc'.1)]; exact hm')
  ·rw [if_pos hc] at hb
   rw [if_neg hc'] at hb'
   exact (apart b' c' z' b c z B' O' Z' O Z hc.1 hc.2 hb' hb hm' hm).elim
  ·rw [if_neg hc] at hb
   rw [if_pos hc'] at hb'
   exact (apart b c z b' c' z' B' O Z O' Z' hc'.1 hc'.2 hb hb' hm hm').elim
  ·rw [if_neg hc] at hb
   rw [if_neg hc'] at hb'
   exact B.sim.inj b b' c z c' z' B' O Z O' Z' hb hb' hm hm'
theorem Tr.then {n0 n nN n1:Nat} {h0 h h1:HT} {m0 m m1:Mp} {w0 w w1:World} (A:Tr P ρ g fl h0 n0 m0 w0 h nN m w) (B:Tr P ρ g fl h n m w h1 n1 m1 w1) (l1:n0≤n) (l2:n1≤nN):Tr P ρ g fl h0 n0 m0 w0 h1 nN m1 w1:=by
 refine ⟨B.sim,fun k hk=>?_,⟨B.keep.os.trans A.keep.os,B.keep.tape.trans A.keep.tape,B.keep.output.trans A.keep.output,Nat.le_trans A.keep.size B.keep.size,fun k hk hn=>?_,fun k r hr=>(let ⟨r1,h1⟩:=A.keep.loops k r hr; B.keep.loops k r1 h1)⟩,fun k c z B' O Z e1 e2 e3=>?_⟩
 ·rw [B.ext k (by omega),A.ext k (by omega)]
 ·rw [B.keep.block k (Nat.lt_of_lt_of_le hk A.keep.size) (fun b0 c z O Z e1 e2 e3=>?_),A.keep.block k hk hn]
  rcases A.orig b0 c z k O Z e1 e2 e3 with q | ⟨b1,c1,z1,O1,Z1,q1,q2,q3⟩
  ·omega
  ·exact hn b1 c1 z1 O1 Z1 q1 q2 q3
 ·rcases B.orig k c z B' O Z e1 e2 e3 with q | ⟨b1,c1,z1,O1,Z1,q1,q2,q3⟩
  ·exact .inl (Nat.le_trans A.keep.size q)
  ·exact A.orig b1 c1 z1 B' O1 Z1 q1 q2 q3
theorem Tr.narrow {n0 nN:Nat} {h0 h h1:HT} {m0 m:Mp} {w0 w:World} (A:Tr P ρ g fl h0 n0 m0 w0 h nN m w) (sub:∀ b c z,hg h1 b=.bk c z→hg h b=.bk c z):Tr P ρ g fl h0 n0 m0 w0 h1 nN m w:=
 ⟨A.sim.sub sub,A.ext,A.keep,fun b c z B O Z h1 h2 h3=>A.orig b c z B O Z h1 (sub _ _ _ h2) h3⟩
/-! ### frames,some operations done -/
theorem put_get (t:FT) (d:D) (r:RV) (k:Nat):T.get .un (put t d r) k=if (dm d).testBit k=true then r else T.get .un t k:=by
 cases d with
 | no=>simp [dm]; rfl
 | d p=>
  show T.get .un (T.setP .un t r p) k=if (2 ^ paN p).testBit k=true then r else T.get .un t k
  rw [setP_get]
  by_cases hk:k=p.val
  ·subst hk; rw [if_pos rfl,if_pos (bit_self p)]
  ·rw [if_neg hk,if_neg (fun q=>hk (bit_of q))]
def dOf (l:List RQ) (i:Nat):D:=match l[i]? with | some (.q d _ _ _)=>d | none=>.no
def rOf (l:List RQ) (i:Nat):Nat:=match l[i]? with | some (.q _ g _ o)=>rdm o ||| gm g | none=>0
noncomputable def ts (l:List RQ) (t:FT) (R:Nat→RV) (S:Nat→Bool):Nat→FT
 | 0=>t
 | i + 1=>if S i=true then put (ts l t R S i) (dOf l i) (R i) else ts l t R S i
theorem Fr.same {m:Mp} {t t':FT} {tmps:Array Value} (F:Fr P ρ m nt t tmps) (e:∀ i,T.get .un t' (i + 1)=T.get .un t (i + 1)):Fr P ρ m nt t' tmps:=
 ⟨F.size,F.small,fun i hi=>by rw [e] at hi ⊢; exact F.slot i hi,F.glob⟩
end Go.Rn
