/-
  One text of a symbolic evaluator over the model, shown sound once for every program: no statement is claimed here.
-/
import Derived.Orders
import Derived.Below
namespace Go.Rn
inductive Pa where | z | o (p:Pa) | i (p:Pa)
inductive SE where | v (n:Nat) | c (z:Int) | add (k:IntKind) (a b:SE) | sub (k:IntKind) (a b:SE) | mul (k:IntKind) (a b:SE) | xor (a b:SE) | qu (a:SE) (n:Nat)
inductive RV where
 | un | ud | b (x:Bool) | i (k:IntKind) (n:Int) | y (k:IntKind) (e:SE) | s (l:List Nat)
 | np | p (b o:Nat) | ns | sl (b o l c:Nat) | su (b o l e:Nat) | sx (b e:Nat)
 | nf | fn (f:Nat) (c:RV) | nil | cons (h t:RV) | agg (c:RV) | tup (c:RV) | mp (b:Nat)
inductive T (α:Type) where | e | n (l:T α) (v:α) (r:T α)
inductive RB where | no | bk (c:T RV) (z:Nat)
noncomputable section
variable {α:Type}
def T.get (d:α) (t:T α):Nat→α:=@T.rec α (fun _=>Nat→α) (fun _=>d)
 (fun _ v _ gl gr k=>@Bool.rec (fun _=>α) (@Bool.rec (fun _=>α) (gr (Nat.div k 2)) (gl (Nat.div k 2)) (Nat.beq (Nat.mod k 2) 0)) v (Nat.beq k 1)) t
def T.getP (d:α) (t:T α):Pa→α:=@T.rec α (fun _=>Pa→α) (fun _=>d)
 (fun _ v _ gl gr p=>@Pa.rec (fun _=>α) v (fun q _=>gl q) (fun q _=>gr q) p) t
def nodeL (t:T α) (v:α) (r:T α):T α:=@T.rec α (fun _=>T α) (.n .e v r) (fun a b c _ _=>.n (.n a b c) v r) t
def nodeR (l:T α) (v:α) (t:T α):T α:=@T.rec α (fun _=>T α) (.n l v .e) (fun a b c _ _=>.n l v (.n a b c)) t
def T.leaf (d x:α) (fuel:Nat):Nat→T α:=@Nat.rec (fun _=>Nat→T α) (fun _=>.e)
 (fun _ ih k=>@Bool.rec (fun _=>T α) (@Bool.rec (fun _=>T α) (nodeR .e d (ih (Nat.div k 2))) (nodeL (ih (Nat.div k 2)) d .e) (Nat.beq (Nat.mod k 2) 0)) (.n .e x .e) (Nat.beq k 1)) fuel
def T.set (d:α) (t:T α) (x:α):Nat→T α:=@T.rec α (fun _=>Nat→T α) (T.leaf d x 24)
 (fun l v r sl sr k=>@Bool.rec (fun _=>T α) (@Bool.rec (fun _=>T α) (nodeR l v (sr (Nat.div k 2))) (nodeL (sl (Nat.div k 2)) v r) (Nat.beq (Nat.mod k 2) 0)) (.n l x r) (Nat.beq k 1)) t
def T.leafP (d x:α) (p:Pa):T α:=@Pa.rec (fun _=>T α) (.n .e x .e) (fun _ ih=>nodeL ih d .e) (fun _ ih=>nodeR .e d ih) p
def T.setP (d:α) (t:T α) (x:α):Pa→T α:=@T.rec α (fun _=>Pa→T α) (T.leafP d x)
 (fun l v r sl sr p=>@Pa.rec (fun _=>T α) (.n l x r) (fun q _=>nodeL (sl q) v r) (fun q _=>nodeR l v (sr q)) p) t
def Pa.val (p:Pa):Nat:=@Pa.rec (fun _=>Nat) 1 (fun _ ih=>2 * ih) (fun _ ih=>2 * ih + 1) p
theorem nodeL_eq (t:T α) (v:α) (r:T α):nodeL t v r=.n t v r:=by cases t <;> rfl
theorem nodeR_eq (l:T α) (v:α) (t:T α):nodeR l v t=.n l v t:=by cases t <;> rfl
theorem get_n (d:α) (l:T α) (v:α) (r:T α) (k:Nat):T.get d (.n l v r) k=if k=1 then v else if k % 2=0 then T.get d l (k / 2) else T.get d r (k / 2):=by
 show @Bool.rec (fun _=>α) (@Bool.rec (fun _=>α) (T.get d r (k / 2)) (T.get d l (k / 2)) (Nat.beq (k % 2) 0)) v (Nat.beq k 1)=_
 cases h:Nat.beq k 1 with
 | true=>rw [if_pos (Nat.eq_of_beq_eq_true h)]
 | false=>
  rw [if_neg (Nat.ne_of_beq_eq_false h)]
  cases h2:Nat.beq (k % 2) 0 with
  | true=>rw [if_pos (Nat.eq_of_beq_eq_true h2)]
  | false=>rw [if_neg (Nat.ne_of_beq_eq_false h2)]
theorem set_n (d:α) (l:T α) (v:α) (r:T α) (x:α) (k:Nat):T.set d (.n l v r) x k=if k=1 then .n l x r else if k % 2=0 then .n (T.set d l x (k / 2)) v r else .n l v (T.set d r x (k / 2)):=by
 show @Bool.rec (fun _=>T α) (@Bool.rec (fun _=>T α) (nodeR l v (T.set d r x (k / 2))) (nodeL (T.set d l x (k / 2)) v r) (Nat.beq (k % 2) 0)) (.n l x r) (Nat.beq k 1)=_
 cases h:Nat.beq k 1 with
 | true=>rw [if_pos (Nat.eq_of_beq_eq_true h)]
 | false=>
  rw [if_neg (Nat.ne_of_beq_eq_false h)]
  cases h2:Nat.beq (k % 2) 0 with
  | true=>rw [if_pos (Nat.eq_of_beq_eq_true h2)]; exact nodeL_eq _ _ _
  | false=>rw [if_neg (Nat.ne_of_beq_eq_false h2)]; exact nodeR_eq _ _ _
theorem leaf_s (d x:α) (f k:Nat):T.leaf d x (f + 1) k=if k=1 then .n .e x .e else if k % 2=0 then .n (T.leaf d x f (k / 2)) d .e else .n .e d (T.leaf d x f (k / 2)):=by
 show @Bool.rec (fun _=>T α) (@Bool.rec (fun _=>T α) (nodeR .e d (T.leaf d x f (k / 2))) (nodeL (T.leaf d x f (k / 2)) d .e) (Nat.beq (k % 2) 0)) (.n .e x .e) (Nat.beq k 1)=_
 cases h:Nat.beq k 1 with
 | true=>rw [if_pos (Nat.eq_of_beq_eq_true h)]
 | false=>
  rw [if_neg (Nat.ne_of_beq_eq_false h)]
  cases h2:Nat.beq (k % 2) 0 with
  | true=>rw [if_pos (Nat.eq_of_beq_eq_true h2)]; exact nodeL_eq _ _ _
  | false=>rw [if_neg (Nat.ne_of_beq_eq_false h2)]; exact nodeR_eq _ _ _
theorem get_leaf (d x:α) (f:Nat):∀ k j,T.get d (T.leaf d x f k) j=d ∨ (j=k∧T.get d (T.leaf d x f k) j=x):=by
 induction f with
 | zero=>exact fun k j=>.inl rfl
 | succ f ih=>
  intro k j
  rw [leaf_s]
  by_cases h1:k=1
  ·rw [if_pos h1,get_n]
   by_cases h2:j=1
   ·rw [if_pos h2]; exact .inr ⟨by omega,rfl⟩
   ·rw [if_neg h2]; split <;> exact .inl rfl
  ·rw [if_neg h1]
   by_cases h2:k % 2=0
   ·rw [if_pos h2,get_n]
    by_cases h3:j=1
    ·rw [if_pos h3]; exact .inl rfl
    ·rw [if_neg h3]
     by_cases h4:j % 2=0
     ·rw [if_pos h4]
      rcases ih (k / 2) (j / 2) with h | ⟨h,h'⟩
      ·exact .inl h
      ·exact .inr ⟨by omega,h'⟩
     ·rw [if_neg h4]; exact .inl rfl
   ·rw [if_neg h2,get_n]
    by_cases h3:j=1
    ·rw [if_pos h3]; exact .inl rfl
    ·rw [if_neg h3]
     by_cases h4:j % 2=0
     ·rw [if_pos h4]; exact .inl rfl
     ·rw [if_neg h4]
      rcases ih (k / 2) (j / 2) with h | ⟨h,h'⟩
      ·exact .inl h
      ·exact .inr ⟨by omega,h'⟩
theorem get_set (d:α) (t:T α) (x:α):∀ k j,(j=k∧(T.get d (T.set d t x k) j=x ∨ T.get d (T.set d t x k) j=d)) ∨ (j ≠ k∧T.get d (T.set d t x k) j=T.get d t j):=by
 induction t with
 | e=>
  intro k j
  show (j=k∧(T.get d (T.leaf d x 24 k) j=x ∨ T.get d (T.leaf d x 24 k) j=d)) ∨ (j ≠ k∧T.get d (T.leaf d x 24 k) j=d)
  by_cases hj:j=k
  ·rcases get_leaf d x 24 k j with h | ⟨_,h⟩
   ·exact .inl ⟨hj,.inr h⟩
   ·exact .inl ⟨hj,.inl h⟩
  ·rcases get_leaf d x 24 k j with h | ⟨h,_⟩
   ·exact .inr ⟨hj,h⟩
   ·exact absurd h hj
 | n l v r ihl ihr=>
  intro k j
  rw [set_n]
  by_cases h1:k=1
  ·rw [if_pos h1,get_n,get_n]
   by_cases h2:j=1
   ·rw [if_pos h2]; exact .inl ⟨by omega,.inl rfl⟩
   ·rw [if_neg h2,if_neg h2]; exact .inr ⟨by omega,rfl⟩
  ·rw [if_neg h1]
   by_cases h2:k % 2=0
   ·rw [if_pos h2,get_n,get_n]
    by_cases h3:j=1
    ·rw [if_pos h3,if_pos h3]; exact .inr ⟨by omega,rfl⟩
    ·rw [if_neg h3,if_neg h3]
     by_cases h4:j % 2=0
     ·rw [if_pos h4,if_pos h4]
      rcases ihl (k / 2) (j / 2) with ⟨h,h'⟩ | ⟨h,h'⟩
      ·exact .inl ⟨by omega,h'⟩
      ·exact .inr ⟨by omega,h'⟩
     ·rw [if_neg h4,if_neg h4]; exact .inr ⟨by omega,rfl⟩
   ·rw [if_neg h2,get_n,get_n]
    by_cases h3:j=1
    ·rw [if_pos h3,if_pos h3]; exact .inr ⟨by omega,rfl⟩
    ·rw [if_neg h3,if_neg h3]
     by_cases h4:j % 2=0
     ·rw [if_pos h4,if_pos h4]; exact .inr ⟨by omega,rfl⟩
     ·rw [if_neg h4,if_neg h4]
      rcases ihr (k / 2) (j / 2) with ⟨h,h'⟩ | ⟨h,h'⟩
      ·exact .inl ⟨by omega,h'⟩
      ·exact .inr ⟨by omega,h'⟩
theorem get_leaf_in (d x:α):∀ (f k:Nat),1≤k→k < 2 ^ f→T.get d (T.leaf d x f k) k=x
 | 0,k,h1,h2=>by have:k < 1:=h2; omega
 | f + 1,k,h1,h2=>by
  rw [leaf_s]
  have h3:k / 2 < 2 ^ f:=by rw [Nat.pow_succ] at h2; omega
  by_cases hk:k=1
  ·rw [if_pos hk,get_n,if_pos hk]
  ·rw [if_neg hk]
   by_cases h4:k % 2=0
   ·rw [if_pos h4,get_n,if_neg hk,if_pos h4]; exact get_leaf_in d x f (k / 2) (by omega) h3
   ·rw [if_neg h4,get_n,if_neg hk,if_neg h4]; exact get_leaf_in d x f (k / 2) (by omega) h3
theorem get_set_in (d:α) (t:T α) (x:α):∀ k,1≤k→k < 2 ^ 24→T.get d (T.set d t x k) k=x:=by
 induction t with
 | e=>exact fun k h1 h2=>get_leaf_in d x 24 k h1 h2
 | n l v r ihl ihr=>
  intro k h1 h2
  rw [set_n]
  by_cases hk:k=1
  ·rw [if_pos hk,get_n,if_pos hk]
  ·rw [if_neg hk]
   by_cases h4:k % 2=0
   ·rw [if_pos h4,get_n,if_neg hk,if_pos h4]; exact ihl (k / 2) (by omega) (by omega)
   ·rw [if_neg h4,get_n,if_neg hk,if_neg h4]; exact ihr (k / 2) (by omega) (by omega)
theorem Pa.val_pos (p:Pa):0 < p.val:=by
 induction p with
 | z=>show 0 < 1; omega
 | o p ih=>show 0 < 2 * p.val; omega
 | i p ih=>show 0 < 2 * p.val + 1; omega
theorem getP_eq (d:α) (t:T α):∀ p:Pa,T.getP d t p=T.get d t p.val:=by
 induction t with
 | e=>exact fun _=>rfl
 | n l v r ihl ihr=>
  intro p
  rw [get_n]
  cases p with
  | z=>rw [if_pos (show Pa.val .z=1 from rfl)]; rfl
  | o q=>
   have:=q.val_pos
   have e:Pa.val (.o q)=2 * q.val:=rfl
   rw [if_neg (by omega),if_pos (by omega),show Pa.val (.o q) / 2=q.val by omega]
   exact ihl q
  | i q=>
   have:=q.val_pos
   have e:Pa.val (.i q)=2 * q.val + 1:=rfl
   rw [if_neg (by omega),if_neg (by omega),show Pa.val (.i q) / 2=q.val by omega]
   exact ihr q
theorem leafP_get (d x:α) (p:Pa):∀ j,T.get d (T.leafP d x p) j=if j=p.val then x else d:=by
 induction p with
 | z=>
  intro j
  show T.get d (.n .e x .e) j=_
  rw [get_n]
  show (if j=1 then x else _)=if j=1 then x else d
  split
  ·rfl
  ·split <;> rfl
 | o q ih=>
  intro j
  show T.get d (nodeL (T.leafP d x q) d .e) j=_
  have e:Pa.val (.o q)=2 * q.val:=rfl
  have:=q.val_pos
  rw [nodeL_eq,get_n,ih]
  by_cases h1:j=1
  ·rw [if_pos h1,if_neg (by omega)]
  ·rw [if_neg h1]
   by_cases h2:j % 2=0
   ·rw [if_pos h2]
    by_cases h3:j / 2=q.val
    ·rw [if_pos h3,if_pos (by omega)]
    ·rw [if_neg h3,if_neg (by omega)]
   ·rw [if_neg h2,if_neg (by omega)]; rfl
 | i q ih=>
  intro j
  show T.get d (nodeR .e d (T.leafP d x q)) j=_
  have e:Pa.val (.i q)=2 * q.val + 1:=rfl
  have:=q.val_pos
  rw [nodeR_eq,get_n,ih]
  by_cases h1:j=1
  ·rw [if_pos h1,if_neg (by omega)]
  ·rw [if_neg h1]
   by_cases h2:j % 2=0
   ·rw [if_pos h2,if_neg (by omega)]; rfl
   ·rw [if_neg h2]
    by_cases h3:j / 2=q.val
    ·rw [if_pos h3,if_pos (by omega)]
    ·rw [if_neg h3,if_neg (by omega)]
theorem setP_get (d:α) (t:T α) (x:α):∀ (p:Pa) (j:Nat),T.get d (T.setP d t x p) j=if j=p.val then x else T.get d t j:=by
 induction t with
 | e=>exact fun p j=>leafP_get d x p j
 | n l v r ihl ihr=>
  intro p j
  cases p with
  | z=>
   show T.get d (.n l x r) j=if j=1 then x else _
   rw [get_n,get_n]
   split <;> rfl
  | o q=>
   have e:Pa.val (.o q)=2 * q.val:=rfl
   have:=q.val_pos
   show T.get d (nodeL (T.setP d l x q) v r) j=_
   rw [nodeL_eq,get_n,get_n,ihl]
   by_cases h1:j=1
   ·rw [if_pos h1,if_neg (by omega),if_pos h1]
   ·rw [if_neg h1,if_neg h1]
    by_cases h2:j % 2=0
    ·rw [if_pos h2,if_pos h2]
     by_cases h3:j / 2=q.val
     ·rw [if_pos h3,if_pos (by omega)]
     ·rw [if_neg h3,if_neg (by omega)]
    ·rw [if_neg h2,if_neg h2,if_neg (by omega)]
  | i q=>
   have e:Pa.val (.i q)=2 * q.val + 1:=rfl
   have:=q.val_pos
   show T.get d (nodeR l v (T.setP d r x q)) j=_
   rw [nodeR_eq,get_n,get_n,ihr]
   by_cases h1:j=1
   ·rw [if_pos h1,if_neg (by omega),if_pos h1]
   ·rw [if_neg h1,if_neg h1]
    by_cases h2:j % 2=0
    ·rw [if_pos h2,if_pos h2,if_neg (by omega)]
    ·rw [if_neg h2,if_neg h2]
     by_cases h3:j / 2=q.val
     ·rw [if_pos h3,if_pos (by omega)]
     ·rw [if_neg h3,if_neg (by omega)]
end
end Go.Rn
namespace Go.Rn
abbrev CT:=T RV
abbrev FT:=T RV
abbrev HT:=T RB
abbrev BND:Nat:=16777216
inductive RO where | t (p:Pa) | c (v:RV)
inductive IvE where | e (ty f:Nat) (st g:Bool) (off m:Nat)
inductive RP where
 | mv (x:RO) | pick (c a b:RO) | al (z:RV) | bx (x:RO)
 | bd (z:RV) (ps:List (Nat × Nat × RO)) | bs (z:RV) (len:Nat) (ps:List (Nat × Nat × RO))
 | ld (g:Bool) (n:Nat) (a:RO) | st (n:Nat) (a v:RO) | nc (x:RO)
 | bn (op:BinOp) (x y:RO) | bq (neg:Bool) (x y:RO) | nq (kd:Nat) (neg:Bool) (x y:RO)
 | ng (x:RO) | nt (x:RO) | cv (k:IntKind) (x:RO) | mf (f:Nat) (cs:List RO)
 | ms (z:RV) (l c:RO)
 | sc (es:Nat) (x:RO) (lo hi mx:Option RO) | ss (x:RO) (lo hi:Option RO) | sa (n es:Nat) (x:RO) (lo hi:Option RO)
 | fa (off:Nat) (x:RO) | fd (g:Bool) (off n:Nat) (x:RO) | ia (es:Nat) (x i:RO) | ip (n es:Nat) (x i:RO) | ix (g:Bool) (n es:Nat) (x i:RO) | sx (x i:RO)
 | ex (k:Nat) (x:RO) | cl (f:Nat) (as:List RO) | cf (x:RO) (as:List RO)
 | ln (st:Bool) (x:RO) | cp (x:RO) | ap (es:Nat) (x y:RO) | cy (es:Nat) (x y:RO) | mm (mx:Bool) (x y:RO)
 | cr (z:RV) (x:RO) | se (ks:List Nat) (neg:Bool) (x y:RO)
 | mk | mi (q:Nat) (m k x:RO) | ml (q:Nat) (z:RV) (two:Bool) (m k:RO) | fg
 | az (es:Nat) (z:RV) (x y:RO)
 | ta (ty:Nat) (z:RV) (two:Bool) (x:RO) | iv (tab:List IvE) (x:RO) (as:List RO) | b2 (st:Bool) (x:RO) | pq (neg:Bool) (x y:RO)
inductive SR where | ok (v:RV) (h:HT) (n:Nat) | bad (l:List Nat)
inductive D where | no | d (p:Pa)
inductive G where | no | g (p:Pa) (w:Bool)
inductive K3 where | nm | lm | ck (p q:Nat) | ef
inductive RQ where | q (d:D) (g:G) (k:K3) (o:RP)
inductive RC where | sk | rg (l:List RQ) | dr (l:List RQ) | sq (a b:RC) | cd (c:RO) (a b:RC) | bl (id:Nat) (a:RC) | lp (a:RC) | ex (id:Nat) | rt | rf (g:RO) (key:Nat) (sv:List Pa)
inductive BR where | nx (t:FT) (h:HT) (n:Nat) | ex (id:Nat) (t:FT) (h:HT) (n:Nat) | rt (t:FT) (h:HT) (n:Nat) | bad (l:List Nat)
inductive RS where | t (p:Pa) | c (p:Pa) (g:Bool) (n:Nat)
inductive RF where | f (np:Nat) (body:RC) (rs:List RS) | r (key nv:Nat) (sv ps:List Pa) (asg body:RC)
noncomputable section
def ce:CT:=.e
def te:FT:=.e
def he:HT:=.e
def cg (c:CT) (k:Nat):RV:=T.get .un c (Nat.succ k)
def cst (c:CT) (x:RV) (k:Nat):CT:=T.set .un c x (Nat.succ k)
def tg (t:FT) (p:Pa):RV:=T.getP .un t p
def tst (t:FT) (x:RV) (p:Pa):FT:=T.setP .un t x p
def hg (h:HT) (b:Nat):RB:=T.get .no h (Nat.succ b)
def hst (h:HT) (x:RB) (b:Nat):HT:=T.set .no h x (Nat.succ b)
variable {α:Type}
/-! ways by a value's kind: what is not of the kind goes to 'd' -/
def gB (d:α) (v:RV) (k:Bool→α):α:=@RV.rec (fun _=>α→(Bool→α)→α) (fun d _=>d) (fun d _=>d) (fun x _ k=>k x) (fun _ _ d _=>d) (fun _ _ d _=>d) (fun _ d _=>d) (fun d _=>d) (fun _ _ d _=>d) (fun d _=>d) (fun _ _ _ _ d _=>d) (fun _ _ _ _ d _=>d) (fun _ _ d _=>d) (fun d _=>d) (fun _ _ _ d _=>d) (fun d _=>d) (fun _ _ _ _ d _=>d) (fun _ _ d _=>d) (fun _ _ d _=>d) (fun _ d _=>d) v d k
def gI (d:α) (v:RV) (k:IntKind→Int→α):α:=@RV.rec (fun _=>α→(IntKind→Int→α)→α) (fun d _=>d) (fun d _=>d) (fun _ d _=>d) (fun j x _ k=>k j x) (fun _ _ d _=>d) (fun _ d _=>d) (fun d _=>d) (fun _ _ d _=>d) (fun d _=>d) (fun _ _ _ _ d _=>d) (fun _ _ _ _ d _=>d) (fun _ _ d _=>d) (fun d _=>d) (fun _ _ _ d _=>d) (fun d _=>d) (fun _ _ _ _ d _=>d) (fun _ _ d _=>d) (fun _ _ d _=>d) (fun _ d _=>d) v d k
def gY (d:α) (v:RV) (k:IntKind→SE→α):α:=@RV.rec (fun _=>α→(IntKind→SE→α)→α) (fun d _=>d) (fun d _=>d) (fun _ d _=>d) (fun j x _ k=>k j (.c x)) (fun j x _ k=>k j x) (fun _ d _=>d) (fun d _=>d) (fun _ _ d _=>d) (fun d _=>d) (fun _ _ _ _ d _=>d) (fun _ _ _ _ d _=>d) (fun _ _ d _=>d) (fun d _=>d) (fun _ _ _ d _=>d) (fun d _=>d) (fun _ _ _ _ d _=>d) (fun _ _ d _=>d) (fun _ _ d _=>d) (fun _ d _=>d) v d k
def gS (d:α) (v:RV) (k:List Nat→α):α:=@RV.rec (fun _=>α→(List Nat→α)→α) (fun d _=>d) (fun d _=>d) (fun _ d _=>d) (fun _ _ d _=>d) (fun _ _ d _=>d) (fun l _ k=>k l) (fun d _=>d) (fun _ _ d _=>d) (fun d _=>d) (fun _ _ _ _ d _=>d) (fun _ _ _ _ d _=>d) (fun _ _ d _=>d) (fun d _=>d) (fun _ _ _ d _=>d) (fun d _=>d) (fun _ _ _ _ d _=>d) (fun _ _ d _=>d) (fun _ _ d _=>d) (fun _ d _=>d) v d k
def gP (d:α) (v:RV) (k:Nat→Nat→α):α:=@RV.rec (fun _=>α→(Nat→Nat→α)→α) (fun d _=>d) (fun d _=>d) (fun _ d _=>d) (fun _ _ d _=>d) (fun _ _ d _=>d) (fun _ d _=>d) (fun d _=>d) (fun b o _ k=>k b o) (fun d _=>d) (fun _ _ _ _ d _=>d) (fun _ _ _ _ d _=>d) (fun _ _ d _=>d) (fun d _=>d) (fun _ _ _ d _=>d) (fun d _=>d) (fun _ _ _ _ d _=>d) (fun _ _ d _=>d) (fun _ _ d _=>d) (fun _ d _=>d) v d k
def gF (d:α) (v:RV) (k:Nat→RV→α):α:=@RV.rec (fun _=>α→(Nat→RV→α)→α) (fun d _=>d) (fun d _=>d) (fun _ d _=>d) (fun _ _ d _=>d) (fun _ _ d _=>d) (fun _ d _=>d) (fun d _=>d) (fun _ _ d _=>d) (fun d _=>d) (fun _ _ _ _ d _=>d) (fun _ _ _ _ d _=>d) (fun _ _ d _=>d) (fun d _=>d) (fun f c _ _ k=>k f c) (fun d _=>d) (fun _ _ _ _ d _=>d) (fun _ _ d _=>d) (fun _ _ d _=>d) (fun _ d _=>d) v d k
def gA (d:α) (v:RV) (k:RV→α):α:=@RV.rec (fun _=>α→(RV→α)→α) (fun d _=>d) (fun d _=>d) (fun _ d _=>d) (fun _ _ d _=>d) (fun _ _ d _=>d) (fun _ d _=>d) (fun d _=>d) (fun _ _ d _=>d) (fun d _=>d) (fun _ _ _ _ d _=>d) (fun _ _ _ _ d _=>d) (fun _ _ d _=>d) (fun d _=>d) (fun _ _ _ d _=>d) (fun d _=>d) (fun _ _ _ _ d _=>d) (fun c _ _ k=>k c) (fun _ _ d _=>d) (fun _ d _=>d) v d k
def gT (d:α) (v:RV) (k:RV→α):α:=@RV.rec (fun _=>α→(RV→α)→α) (fun d _=>d) (fun d _=>d) (fun _ d _=>d) (fun _ _ d _=>d) (fun _ _ d _=>d) (fun _ d _=>d) (fun d _=>d) (fun _ _ d _=>d) (fun d _=>d) (fun _ _ _ _ d _=>d) (fun _ _ _ _ d _=>d) (fun _ _ d _=>d) (fun d _=>d) (fun _ _ _ d _=>d) (fun d _=>d) (fun _ _ _ _ d _=>d) (fun _ _ d _=>d) (fun c _ _ k=>k c) (fun _ d _=>d) v d k
def gM (d:α) (v:RV) (k:Nat→α):α:=@RV.rec (fun _=>α→(Nat→α)→α) (fun d _=>d) (fun d _=>d) (fun _ d _=>d) (fun _ _ d _=>d) (fun _ _ d _=>d) (fun _ d _=>d) (fun d _=>d) (fun _ _ d _=>d) (fun d _=>d) (fun _ _ _ _ d _=>d) (fun _ _ _ _ d _=>d) (fun _ _ d _=>d) (fun d _=>d) (fun _ _ _ d _=>d) (fun d _=>d) (fun _ _ _ _ d _=>d) (fun _ _ d _=>d) (fun _ _ d _=>d) (fun x _ k=>k x) v d k
def nU (d:α) (v:RV) (k:RV→α):α:=@RV.rec (fun _=>α→(RV→α)→α) (fun d _=>d) (fun _ k=>k .ud) (fun x _ k=>k (.b x)) (fun j x _ k=>k (.i j x)) (fun j x _ k=>k (.y j x)) (fun l _ k=>k (.s l)) (fun _ k=>k .np) (fun b o _ k=>k (.p b o)) (fun _ k=>k .ns) (fun b o l c _ k=>k (.sl b o l c)) (fun b o l e _ k=>k (.su b o l e)) (fun b e _ k=>k (.sx b e)) (fun _ k=>k .nf) (fun f c _ _ k=>k (.fn f c)) (fun _ k=>k .nil) (fun h t _ _ _ k=>k (.cons h t)) (fun c _ _ k=>k (.agg c)) (fun c _ _ k=>k (.tup c)) (fun x _ k=>k (.mp x)) v d k
def gC (d:α) (v:RV) (k:RV→α):α:=@RV.rec (fun _=>α→(RV→α)→α) (fun d _=>d) (fun d _=>d) (fun x _ k=>k (.cons (.b x) .nil)) (fun j x _ k=>k (.cons (.i j x) .nil)) (fun j x _ k=>k (.cons (.y j x) .nil)) (fun l _ k=>k (.cons (.s l) .nil)) (fun _ k=>k (.cons .np .nil)) (fun b o _ k=>k (.cons (.p b o) .nil)) (fun _ k=>k (.cons .ns .nil)) (fun b o l c _ k=>k (.cons (.sl b o l c) .nil)) (fun b o l e _ k=>k (.cons (.su b o l e) .nil)) (fun b e _ k=>k (.cons (.sx b e) .nil)) (fun _ k=>k (.cons .nf .nil)) (fun f c _ _ k=>k (.cons (.fn f c) .nil)) (fun d _=>d) (fun _ _ _ _ d _=>d) (fun c _ _ k=>k c) (fun _ _ d _=>d) (fun x _ k=>k (.cons (.mp x) .nil)) v d k
def gL (d:α) (v:RV) (k0:α) (k1:Nat→Nat→Nat→Nat→α) (k2:Nat→Nat→Nat→Nat→α) (k3:Nat→Nat→α):α:=@RV.rec (fun _=>α→α→(Nat→Nat→Nat→Nat→α)→(Nat→Nat→Nat→Nat→α)→(Nat→Nat→α)→α) (fun d _ _ _ _=>d) (fun d _ _ _ _=>d) (fun _ d _ _ _ _=>d) (fun _ _ d _ _ _ _=>d) (fun _ _ d _ _ _ _=>d) (fun _ d _ _ _ _=>d) (fun d _ _ _ _=>d) (fun _ _ d _ _ _ _=>d) (fun _ k0 _ _ _=>k0) (fun b o l c _ _ k1 _ _=>k1 b o l c) (fun b o l e _ _ _ k2 _=>k2 b o l e) (fun b e _ _ _ _ k3=>k3 b e) (fun d _ _ _ _=>d) (fun _ _ _ d _ _ _ _=>d) (fun d _ _ _ _=>d) (fun _ _ _ _ d _ _ _ _=>d) (fun _ _ d _ _ _ _=>d) (fun _ _ d _ _ _ _=>d) (fun _ d _ _ _ _=>d) v d k0 k1 k2 k3
def gN (d:α) (v:RV) (k0:α) (k1:RV→RV→α):α:=@RV.rec (fun _=>α→α→(RV→RV→α)→α) (fun d _ _=>d) (fun d _ _=>d) (fun _ d _ _=>d) (fun _ _ d _ _=>d) (fun _ _ d _ _=>d) (fun _ d _ _=>d) (fun d _ _=>d) (fun _ _ d _ _=>d) (fun d _ _=>d) (fun _ _ _ _ d _ _=>d) (fun _ _ _ _ d _ _=>d) (fun _ _ d _ _=>d) (fun d _ _=>d) (fun _ _ _ d _ _=>d) (fun _ k0 _=>k0) (fun h t _ _ _ _ k1=>k1 h t) (fun _ _ d _ _=>d) (fun _ _ d _ _=>d) (fun _ d _ _=>d) v d k0 k1
def gO {β:Type} (d:α) (v:Option β) (k:β→α):α:=@Option.rec β (fun _=>α→(β→α)→α) (fun d _=>d) (fun x _ k=>k x) v d k
def bf (c:Bool) (y n:α):α:=@Bool.rec (fun _=>α→α→α) (fun _ n=>n) (fun y _=>y) c y n
def MAPZ:Nat:=1099511627776
def gK (d:α) (v:RB) (k:CT→Nat→α):α:=@RB.rec (fun _=>α→(CT→Nat→α)→α) (fun d _=>d) (fun c z d k=>bf (Nat.beq z MAPZ) d (k c z)) v d k
def fT {β:Type} (t:T β) (k:T β→α):α:=@T.rec β (fun _=>(T β→α)→α) (fun k=>k .e) (fun l v r _ _ k=>k (.n l v r)) t k
def gR (r:SR) (k:RV→HT→Nat→SR):SR:=@SR.rec (fun _=>(RV→HT→Nat→SR)→SR) (fun v h n k=>k v h n) (fun l _=>.bad l) r k
def ev (t:FT) (o:RO):RV:=@RO.rec (fun _=>FT→RV) (fun p t=>tg t p) (fun v _=>v) o t
def mkI (k:IntKind) (n:Int):RV:=@Int.rec (fun _=>IntKind→RV) (fun m k=>@Nat.rec (fun _=>RV) (.i k (.ofNat 0)) (fun q _=>.i k (.ofNat (Nat.succ q))) m) (fun m k=>@Nat.rec (fun _=>RV) (.i k (.negSucc 0)) (fun q _=>.i k (.negSucc (Nat.succ q))) m) n k
def small (n:Int):Bool:=@Int.rec (fun _=>Bool) (fun m=>Nat.ble m 9223372036854775807) (fun m=>Nat.ble m 9223372036854775807) n
def is64 (k:IntKind):Bool:=@IntKind.rec (fun _=>Bool) false false false true false false false false k
def wrapI (k:IntKind) (n:Int):RV:=bf (is64 k) (bf (small n) (mkI .i64 n) (mkI .i64 (IntKind.wrap .i64 n))) (mkI k (IntKind.wrap k n))
def nonI (a:Int):Bool:=@Int.rec (fun _=>Bool) (fun _=>true) (fun _=>false) a
def ltI (a b:Int):Bool:=@Int.rec (fun _=>Bool) (fun _=>false) (fun _=>true) (Int.sub a b)
def eqI (a b:Int):Bool:=@Int.rec (fun _=>Int→Bool) (fun m b=>@Int.rec (fun _=>Nat→Bool) (fun n m=>Nat.beq m n) (fun _ _=>false) b m) (fun m b=>@Int.rec (fun _=>Nat→Bool) (fun _ _=>false) (fun n m=>Nat.beq m n) b m) a b
def natI (a:Int):Nat:=@Int.rec (fun _=>Nat) (fun m=>m) (fun _=>0) a
def notB (b:Bool):Bool:=@Bool.rec (fun _=>Bool) true false b
def eqB (a b:Bool):Bool:=bf a b (notB b)
def mkB (b:Bool):RV:=@Bool.rec (fun _=>RV) (.b false) (.b true) b
def eqL (a:List Nat):List Nat→Bool:=@List.rec Nat (fun _=>List Nat→Bool) (fun b=>@List.rec Nat (fun _=>Bool) true (fun _ _ _=>false) b)
 (fun x _ ih b=>@List.rec Nat (fun _=>Bool) false (fun y r _=>bf (Nat.beq x y) (ih r) false) b) a
def ltL (a:List Nat):List Nat→Bool:=@List.rec Nat (fun _=>List Nat→Bool) (fun b=>@List.rec Nat (fun _=>Bool) false (fun _ _ _=>true) b)
 (fun x _ ih b=>@List.rec Nat (fun _=>Bool) false (fun y r _=>bf (Nat.ble (Nat.succ x) y) true (bf (Nat.beq x y) (ih r) false)) b) a
def arAnd (f:Nat→Nat→Nat) (k:IntKind) (a b:Int):RV:=bf (nonI a) (bf (nonI b) (mkI k (IntKind.wrap k (Int.ofNat (f (natI a) (natI b))))) .un) .un
def arI (op:BinOp):IntKind→Int→Int→RV:=@BinOp.rec (fun _=>IntKind→Int→Int→RV)
 (fun k a b=>wrapI k (Int.add a b)) (fun k a b=>wrapI k (Int.sub a b)) (fun k a b=>wrapI k (Int.mul a b))
 (fun k a b=>bf (eqI b 0) .un (wrapI k (Int.tdiv a b))) (fun k a b=>bf (eqI b 0) .un (mkI k (Int.tmod a b)))
 (fun k a b=>arAnd Nat.land k a b) (fun k a b=>arAnd Nat.lor k a b) (fun k a b=>arAnd Nat.xor k a b)
 (fun _ _ _=>.un) (fun _ _ _=>.un) (fun k a b=>mkI k (IntKind.wrap k (Int.ofNat (BitVec.toNat (BitVec.ofInt (IntKind.bits k) a &&& ~~~ BitVec.ofInt (IntKind.bits k) b)))))
 (fun _ a b=>mkB (eqI a b)) (fun _ a b=>mkB (notB (eqI a b))) (fun _ a b=>mkB (ltI a b)) (fun _ a b=>mkB (notB (ltI b a))) (fun _ a b=>mkB (ltI b a)) (fun _ a b=>mkB (notB (ltI a b))) op
def shI (op:BinOp) (k:IntKind) (a b:Int):RV:=bf (nonI a) (bf (nonI b) (bf (Nat.ble (natI b) (IntKind.bits k)) (@BinOp.rec (fun _=>IntKind→Nat→Nat→RV)
 (fun _ _ _=>.un) (fun _ _ _=>.un) (fun _ _ _=>.un) (fun _ _ _=>.un) (fun _ _ _=>.un) (fun _ _ _=>.un) (fun _ _ _=>.un) (fun _ _ _=>.un)
 (fun k a b=>mkI k (IntKind.wrap k (Int.ofNat (Nat.mul a (Nat.pow 2 b))))) (fun k a b=>mkI k (Int.ofNat (Nat.div a (Nat.pow 2 b))))
 (fun _ _ _=>.un) (fun _ _ _=>.un) (fun _ _ _=>.un) (fun _ _ _=>.un) (fun _ _ _=>.un) (fun _ _ _=>.un) (fun _ _ _=>.un) op k (natI a) (natI b)) .un) .un) .un
def isSh (op:BinOp):Bool:=@BinOp.rec (fun _=>Bool) false false false false false false false false true true false false false false false false false op
def kN (k:IntKind):Nat:=@IntKind.rec (fun _=>Nat) 0 1 2 3 4 5 6 7 k
def eqK (a b:IntKind):Bool:=Nat.beq (kN a) (kN b)
def eqS (a:SE):SE→Bool:=@SE.rec (fun _=>SE→Bool)
 (fun n b=>match b with | .v m=>Nat.beq n m | _=>false) (fun z b=>match b with | .c y=>eqI z y | _=>false)
 (fun k _ _ f g b=>match b with | .add j x y=>bf (eqK k j) (bf (f x) (g y) false) false | _=>false)
 (fun k _ _ f g b=>match b with | .sub j x y=>bf (eqK k j) (bf (f x) (g y) false) false | _=>false)
 (fun k _ _ f g b=>match b with | .mul j x y=>bf (eqK k j) (bf (f x) (g y) false) false | _=>false)
 (fun _ _ f g b=>match b with | .xor x y=>bf (f x) (g y) false | _=>false)
 (fun _ n f b=>match b with | .qu x q=>bf (Nat.beq n q) (f x) false | _=>false) a
def cmY (ys:BinOp→SE→SE→Option Bool) (op:BinOp) (r:Bool) (a b:SE):RV:=match ys op a b with
 | some x=>.b x
 | none=>bf (eqS a b) (.b r) .un
def andY (o:Option Bool) (k:IntKind):RV:=match o,k with | some x,.i64=>.i .i64 (bf x 1 0) | _,_=>.un
def quY (k:IntKind) (a b:SE):RV:=match k,b with | .i64,.c (.ofNat (n + 1))=>.y .i64 (.qu a n) | _,_=>.un
def arY (ys:BinOp→SE→SE→Option Bool) (op:BinOp) (k:IntKind) (a b:SE):RV:=
 match op with
 | .add=>.y k (.add k a b)
 | .mul=>.y k (.mul k a b)
 | .xor=>match k with | .i64=>.y .i64 (.xor a b) | _=>.un
 | .sub=>bf (eqS a b) (.i k 0) (.y k (.sub k a b))
 | .quo=>quY k a b
 | .and=>andY (ys .and a b) k
 | .eql=>cmY ys .eql true a b | .neq=>cmY ys .neq false a b | .lss=>cmY ys .lss false a b | .leq=>cmY ys .leq true a b | .gtr=>cmY ys .gtr false a b | .geq=>cmY ys .geq true a b
 | _=>.un
def binS (op:BinOp) (l r:List Nat):RV:=match op with
 | .add=>bf (Nat.ble (Nat.add l.length r.length) 1099511627776) (.s (l ++ r)) .un
 | .eql=>mkB (eqL l r)
 | .neq=>mkB (notB (eqL l r))
 | .lss=>mkB (ltL l r)
 | _=>.un
def binY (ys:BinOp→SE→SE→Option Bool) (op:BinOp) (a b:RV):RV:=gY .un a fun k x=>gY .un b fun j y=>bf (isSh op) .un (bf (eqK k j) (arY ys op k x y) .un)
def binII (op:BinOp) (k j:IntKind) (x y:Int):RV:=bf (isSh op) (shI op k x y) (bf (eqK k j) (arI op k x y) .un)
def binV (ys:BinOp→SE→SE→Option Bool) (op:BinOp) (a b:RV):RV:=
 gI (gS (binY ys op a b) a fun l=>gS .un b fun r=>binS op l r) a fun k x=>gI (binY ys op a b) b fun j y=>binII op k j x y
def chGet (c:RV):Nat→RV:=@RV.rec (fun _=>Nat→RV) (fun _=>.un) (fun _=>.un) (fun _ _=>.un) (fun _ _ _=>.un) (fun _ _ _=>.un) (fun _ _=>.un) (fun _=>.un) (fun _ _ _=>.un) (fun _=>.un) (fun _ _ _ _ _=>.un) (fun _ _ _ _ _=>.un) (fun _ _ _=>.un) (fun _=>.un) (fun _ _ _ _=>.un) (fun _=>.un)
 (fun x _ _ ih k=>@Nat.rec (fun _=>RV) x (fun m _=>ih m) k) (fun _ _ _=>.un) (fun _ _ _=>.un) (fun _ _=>.un) c
def kons (x r:RV):RV:=nU .un x fun x=>nU .un r fun r=>.cons x r
def chSub (c:RV) (n:Nat):Nat→RV:=@Nat.rec (fun _=>Nat→RV) (fun _=>.nil) (fun _ ih k=>kons (chGet c k) (ih (Nat.succ k))) n
def rd (c:CT) (n:Nat):Nat→RV:=@Nat.rec (fun _=>Nat→RV) (fun _=>.nil) (fun _ ih k=>kons (cg c k) (ih (Nat.succ k))) n
def lay (c:RV):CT→Nat→CT:=@RV.rec (fun _=>CT→Nat→CT) (fun t _=>t) (fun t _=>t) (fun _ t _=>t) (fun _ _ t _=>t) (fun _ _ t _=>t) (fun _ t _=>t) (fun t _=>t) (fun _ _ t _=>t) (fun t _=>t) (fun _ _ _ _ t _=>t) (fun _ _ _ _ t _=>t) (fun _ _ t _=>t) (fun t _=>t) (fun _ _ _ t _=>t) (fun t _=>t)
 (fun x _ _ ih t k=>fT (cst t x k) fun t=>ih t (Nat.succ k)) (fun _ _ t _=>t) (fun _ _ t _=>t) (fun _ t _=>t) c
def over (c:RV):CT→Nat→Option CT:=@RV.rec (fun _=>CT→Nat→Option CT) (fun _ _=>none) (fun _ _=>none) (fun _ _ _=>none) (fun _ _ _ _=>none) (fun _ _ _ _=>none) (fun _ _ _=>none) (fun _ _=>none) (fun _ _ _ _=>none) (fun _ _=>none) (fun _ _ _ _ _ _=>none) (fun _ _ _ _ _ _=>none) (fun _ _ _ _=>none) (fun _ _=>none) (fun _ _ _ _ _=>none) (fun t _=>some t)
 (fun x _ _ ih t k=>nU none (cg t k) fun _=>fT (cst t x k) fun t=>ih t (Nat.succ k)) (fun _ _ _ _=>none) (fun _ _ _ _=>none) (fun _ _ _=>none) c
def chLen (c:RV):Option Nat:=@RV.rec (fun _=>Option Nat) none none (fun _=>none) (fun _ _=>none) (fun _ _=>none) (fun _=>none) none (fun _ _=>none) none (fun _ _ _ _=>none) (fun _ _ _ _=>none) (fun _ _=>none) none (fun _ _ _=>none) (some 0)
 (fun _ _ _ ih=>gO none ih fun n=>some (Nat.succ n)) (fun _ _=>none) (fun _ _=>none) (fun _=>none) c
def chApp (c:RV) (r:RV):RV:=@RV.rec (fun _=>RV) .un .un (fun _=>.un) (fun _ _=>.un) (fun _ _=>.un) (fun _=>.un) .un (fun _ _=>.un) .un (fun _ _ _ _=>.un) (fun _ _ _ _=>.un) (fun _ _=>.un) .un (fun _ _ _=>.un) r
 (fun x _ _ ih=>nU .un ih fun q=>.cons x q) (fun _ _=>.un) (fun _ _=>.un) (fun _=>.un) c
def rep (z:RV) (n:Nat):RV:=@Nat.rec (fun _=>RV) .nil (fun _ ih=>chApp z ih) n
def evL (t:FT) (l:List RO):RV:=@List.rec RO (fun _=>RV) .nil (fun x _ ih=>kons (ev t x) ih) l
def patch (z:RV):RV→Nat→RV:=@RV.rec (fun _=>RV→Nat→RV) (fun _ _=>.un) (fun _ _=>.un) (fun _ _ _=>.un) (fun _ _ _ _=>.un) (fun _ _ _ _=>.un) (fun _ _ _=>.un) (fun _ _=>.un) (fun _ _ _ _=>.un) (fun _ _=>.un) (fun _ _ _ _ _ _=>.un) (fun _ _ _ _ _ _=>.un) (fun _ _ _ _=>.un) (fun _ _=>.un) (fun _ _ _ _ _=>.un)
 (fun p _=>gN .un p .nil fun _ _=>.un)
 (fun x _ _ ih p k=>@Nat.rec (fun _=>RV) (gN .un p (kons x (ih .nil 0)) fun a r=>kons a (ih r 0)) (fun m _=>kons x (ih p m)) k)
 (fun _ _ _ _=>.un) (fun _ _ _ _=>.un) (fun _ _ _=>.un) z
def fillP (t:FT) (l:List (Nat × Nat × RO)):RV→RV:=@List.rec (Nat × Nat × RO) (fun _=>RV→RV) (fun z=>z)
 (fun x _ ih z=>gC .un (ev t x.2.2) fun c=>gO .un (chLen c) fun m=>bf (Nat.beq m x.2.1) (nU .un (patch z c x.1) ih) .un) l
def optN (t:FT) (o:Option RO) (d:Nat):Option Nat:=gO (some d) o fun x=>gI none (ev t x) fun _ n=>bf (nonI n) (some (natI n)) none
def stBlk (fl:Nat) (h:HT) (b k:Nat) (c:RV) (n:Nat):SR:=
 bf (Nat.ble fl b) (gK (.bad [102]) (hg h b) fun cs z=>gO (.bad [103]) (over c cs k) fun cs'=>fT (hst h (.bk cs' z) b) fun h=>.ok .ud h n) (.bad [101])
def newBlk (h:HT) (n:Nat) (cs:CT) (z:Nat) (v:RV):SR:=bf (Nat.beq z MAPZ) (.bad [119]) (fT cs fun cs=>fT (hst h (.bk cs z) n) fun h=>.ok v h (Nat.succ n))
def newCh (h:HT) (n:Nat) (c:RV) (v:RV):SR:=gO (.bad [104]) (chLen c) fun z=>newBlk h n (lay c ce 0) z v
def okV (v:RV) (h:HT) (n:Nat) (why:Nat):SR:=nU (.bad [why]) v fun v=>.ok v h n
def rowCells (h:HT) (es b o m:Nat):RV:=bf (Nat.beq m 0) .nil (gK .un (hg h b) fun c _=>rd c (Nat.mul m es) o)
def slCells (h:HT) (es:Nat) (v:RV) (m:Nat):RV:=
 gL .un v (bf (Nat.beq m 0) .nil .un) (fun b o l _=>bf (Nat.ble m l) (rowCells h es b o m) .un) (fun b o l _=>bf (Nat.ble m l) (rowCells h es b o m) .un) (fun _ _=>bf (Nat.beq m 0) .nil .un)
def slLen (v:RV):Option Nat:=gL none v (some 0) (fun _ _ l _=>some l) (fun _ _ l _=>some l) (fun _ _=>some 0)
def growC (h:HT) (n es b o l:Nat) (y:RV) (m:Nat) (kill:HT):SR:=
 nU (.bad [107]) (chApp (rowCells h es b o l) y) fun r=>newBlk kill n (lay r ce 0) (Nat.mul (Nat.add l m) es) (.su n 0 (Nat.add l m) es)
def growU (h:HT) (n es b o l:Nat) (y:RV) (m:Nat) (kill:HT):SR:=
 gK (.bad [105]) (hg h b) fun c z=>bf (bf (Nat.beq o 0) (Nat.beq z (Nat.mul l es)) false) (newBlk kill n (lay y c z) (Nat.mul (Nat.add l m) es) (.su n 0 (Nat.add l m) es)) (growC h n es b o l y m kill)
def appC (fl es:Nat) (x:RV) (m:Nat) (y:RV) (h:HT) (n:Nat):SR:=
 gL (.bad [115]) x (newBlk h n (lay y ce 0) (Nat.mul m es) (.su n 0 m es))
  (fun b o l c=>bf (Nat.ble (Nat.add l m) c) (gR (stBlk fl h b (Nat.add o (Nat.mul l es)) y n) fun _ h n=>.ok (.sl b o (Nat.add l m) c) h n)
   (bf (Nat.beq l 0) (newBlk h n (lay y ce 0) (Nat.mul m es) (.su n 0 m es)) (growC h n es b o l y m h)))
  (fun b o l e=>bf (Nat.beq (Nat.mod e 1048576) es) (bf (Nat.ble m (Nat.div e 1048576)) (gR (stBlk fl h b (Nat.add o (Nat.mul l es)) y n) fun _ h n=>.ok (.su b o (Nat.add l m) (Nat.add es (Nat.mul 1048576 (Nat.sub (Nat.div e 1048576) m)))) h n)
   (bf (Nat.ble fl b) (growU h n es b o l y m (hst h .no b)) (.bad [113]))) (.bad [116]))
  (fun b e=>bf (Nat.beq e es) (bf (Nat.ble fl b) (gK (.bad [118]) (hg h b) fun _ _=>newBlk (hst h .no b) n (lay y ce 0) (Nat.mul m es) (.su n 0 m es)) (.bad [114])) (.bad [117]))
def chB (l:List Nat):RV:=@List.rec Nat (fun _=>RV) .nil (fun c _ ih=>.cons (.i .u8 (.ofNat c)) ih) l
def yLen (v:RV):Option Nat:=gS (slLen v) v fun l=>some l.length
def yCells (h:HT) (es:Nat) (v:RV) (m:Nat):RV:=gS (slCells h es v m) v fun l=>bf (Nat.beq es 1) (bf (Nat.beq m l.length) (chB l) .un) .un
def app (fl es:Nat) (x y:RV) (h:HT) (n:Nat):SR:=gO (.bad [110]) (yLen y) fun m=>
 bf (Nat.beq m 0) (gO (.bad [111]) (slLen x) fun _=>okV x h n 111) (bf (Nat.ble m 1048576) (nU (.bad [112]) (yCells h es y m) fun c=>gO (.bad [109]) (slLen x) fun l=>bf (Nat.ble l 1048576) (appC fl es x m c h n) (.bad [108])) (.bad [107]))
def insOk (fl es b l e vb m i:Nat):Bool:=bf (Nat.beq (Nat.mod e 1048576) es) (bf (Nat.ble fl b) (bf (Nat.ble fl vb) (bf (Nat.beq b vb) false (bf (Nat.ble (Nat.succ i) l) (bf (Nat.ble 1 m) (bf (Nat.ble l 65536) (Nat.ble m 65536) false) false) false)) false) false) false
def insY (es b o l vb vo m i:Nat) (h:HT) (n:Nat):SR:=nU (.bad [185]) (chApp (rowCells h es vb vo m) (rowCells h es b (Nat.add o (Nat.mul i es)) (Nat.sub l i))) fun y=>growC h n es b o i y (Nat.add (Nat.sub l i) m) (hst h .no b)
def insX (es:Nat) (a:RV) (fl:Nat) (h:HT) (n:Nat):SR:=gN (.bad [181]) a (.bad [181]) fun x r=>gN (.bad [181]) r (.bad [181]) fun i r=>gN (.bad [181]) r (.bad [181]) fun y r=>gN (.bad [181]) r
 (gL (.bad [182]) x (.bad [182]) (fun _ _ _ _=>.bad [182]) (fun b o l e=>gI (.bad [183]) i fun j z=>bf (is64 j) (bf (nonI z)
  (gL (.bad [184]) y (.bad [184]) (fun vb vo m _=>bf (insOk fl es b l e vb m (natI z)) (insY es b o l vb vo m (natI z) h n) (.bad [186])) (fun _ _ _ _=>.bad [184]) (fun _ _=>.bad [184])) (.bad [183])) (.bad [183])) (fun _ _=>.bad [182]))
 (fun _ _=>.bad [181])
def joinL (sep:List Nat) (c:RV):Option (List Nat):=@RV.rec (fun _=>Option (List Nat)) none none (fun _=>none) (fun _ _=>none) (fun _ _=>none) (fun _=>none) none (fun _ _=>none) none (fun _ _ _ _=>none) (fun _ _ _ _=>none) (fun _ _=>none) none (fun _ _ _=>none) (some [])
 (fun x t _ ih=>gS none x fun l=>gN none t (some l) fun _ _=>gO none ih fun r=>some (l ++ (sep ++ r))) (fun _ _=>none) (fun _ _=>none) (fun _=>none) c
def joinX (a:RV) (h:HT) (n:Nat):SR:=gN (.bad [197]) a (.bad [197]) fun x r=>gN (.bad [197]) r (.bad [197]) fun y q=>gN (.bad [197]) q (gO (.bad [198]) (slLen x) fun m=>bf (bf (Nat.ble 2 m) (Nat.ble m 65536) false) (gS (.bad [199]) y fun sep=>nU (.bad [200]) (slCells h 1 x m) fun c=>gO (.bad [201]) (joinL sep c) fun l=>bf (Nat.ble l.length 1048576) (.ok (.s l) h n) (.bad [202])) (.bad [203])) fun _ _=>.bad [197]
def slK (es b o lo hi mx:Nat):RV:=bf (Nat.ble lo hi) (bf (Nat.ble hi mx) (bf (Nat.beq mx lo) (.sl b o (Nat.sub hi lo) (Nat.sub mx lo)) (.sl b (Nat.add o (Nat.mul lo es)) (Nat.sub hi lo) (Nat.sub mx lo))) .un) .un
def slU (es b o k lo hi:Nat):RV:=bf (Nat.ble lo hi) (bf (Nat.ble hi k) (bf (Nat.beq lo 0) (.su b o hi (Nat.add es (Nat.mul 1048576 (Nat.sub k hi)))) (bf (Nat.ble (Nat.succ lo) k) (.su b (Nat.add o (Nat.mul lo es)) (Nat.sub hi lo) (Nat.add es (Nat.mul 1048576 (Nat.sub k hi)))) (.sx b es))) .un) .un
def slV (es:Nat) (x:RV) (lo hi:Nat) (mx:Option Nat):RV:=
 gL .un x (bf (Nat.beq lo 0) (bf (Nat.beq hi 0) (gO .ns mx fun m=>bf (Nat.beq m 0) .ns .un) .un) .un)
  (fun b o _ c=>gO (slK es b o lo hi c) mx fun m=>bf (Nat.ble m c) (slK es b o lo hi m) .un)
  (fun b o l e=>bf (Nat.beq es (Nat.mod e 1048576)) (gO (slU es b o (Nat.add l (Nat.div e 1048576)) lo hi) mx fun m=>bf (Nat.ble m (Nat.add l (Nat.div e 1048576))) (slK es b o lo hi m) .un) .un)
  (fun b e=>bf (Nat.beq es e) (bf (Nat.beq lo 0) (bf (Nat.beq hi 0) (gO (.sx b e) mx fun _=>.un) .un) .un) .un)
/-! the operations -/
abbrev Ys:=BinOp→SE→SE→Option Bool
abbrev Cl':=Nat→RV→Nat→HT→Nat→SR
abbrev St:=Ys→Cl'→Nat→Nat→FT→HT→Nat→SR
def stMv (x:RO):St:=fun _ _ _ _ t h n=>okV (ev t x) h n 1
def stPick (c a b:RO):St:=fun _ _ _ _ t h n=>gB (.bad [3]) (ev t c) fun x=>okV (bf x (ev t a) (ev t b)) h n 2
def stAl (z:RV):St:=fun _ _ _ _ _ h n=>newCh h n z (.p n 0)
def stBx (x:RO):St:=fun _ _ _ _ t h n=>gC (.bad [4]) (ev t x) fun c=>newCh h n c (.p n 0)
def stBd (z:RV) (ps:List (Nat × Nat × RO)):St:=fun _ _ _ _ t h n=>nU (.bad [5]) (fillP t ps z) fun c=>.ok (.agg c) h n
def stBs (z:RV) (len:Nat) (ps:List (Nat × Nat × RO)):St:=fun _ _ _ _ t h n=>nU (.bad [6]) (fillP t ps z) fun c=>newCh h n c (.sl n 0 len len)
def ldC (g:Bool) (m:Nat) (cs:CT) (o:Nat) (h:HT) (n:Nat):SR:=bf g (nU (.bad [8]) (rd cs m o) fun c=>.ok (.agg c) h n) (okV (cg cs o) h n 9)
def stLd (g:Bool) (m:Nat) (a:RO):St:=fun _ _ _ lim t h n=>gP (.bad [10]) (ev t a) fun b o=>bf (Nat.ble (Nat.succ b) lim) (gK (.bad [7]) (hg h b) fun cs _=>ldC g m cs o h n) (.bad [11])
def stSt (m:Nat) (a v:RO):St:=fun _ _ fl _ t h n=>gP (.bad [13]) (ev t a) fun b o=>gC (.bad [12]) (ev t v) fun c=>gO (.bad [14]) (chLen c) fun q=>bf (Nat.beq q m) (stBlk fl h b o c n) (.bad [15])
def stNc (x:RO):St:=fun _ _ _ _ t h n=>gP (gF (.bad [16]) (ev t x) fun f c=>bf (Nat.ble 33554432 f) (gN (.bad [186]) c (.bad [187]) fun _ _=>.ok (.fn f c) h n) (.ok (.fn f c) h n)) (ev t x) fun b o=>.ok (.p b o) h n
def stBn (op:BinOp) (x y:RO):St:=fun ys _ _ _ t h n=>okV (binV ys op (ev t x) (ev t y)) h n 17
def stBq (neg:Bool) (x y:RO):St:=fun _ _ _ _ t h n=>gB (.bad [18]) (ev t x) fun a=>gB (.bad [19]) (ev t y) fun b=>.ok (mkB (eqB neg (notB (eqB a b)))) h n
def isNil (x:RV):Option (Nat × Bool):=match x with
 | .np=>some (0,true) | .p _ _=>some (0,false) | .ns=>some (1,true) | .sl _ _ _ _=>some (1,false) | .su _ _ _ _=>some (1,false) | .sx _ _=>some (1,false) | .nf=>some (2,true) | .fn f c=>bf (Nat.ble 33554432 f) (gN none c (some (3,true)) fun x r=>gN none x (gN none r none fun _ q=>gN none q (some (3,false)) fun _ _=>none) fun _ _=>none) (some (2,false)) | _=>none
def stNq (kd:Nat) (neg:Bool) (x y:RO):St:=fun _ _ _ _ t h n=>gO (.bad [20]) (isNil (ev t x)) fun a=>gO (.bad [21]) (isNil (ev t y)) fun b=>
 bf (bf (Nat.beq a.1 kd) (Nat.beq b.1 kd) false) (bf b.2 (.ok (mkB (eqB neg (notB a.2))) h n) (bf a.2 (.ok (mkB neg) h n) (.bad [22]))) (.bad [23])
def stNg (x:RO):St:=fun _ _ _ _ t h n=>gI (gY (.bad [24]) (ev t x) fun k e=>.ok (.y k (.sub k (.c 0) e)) h n) (ev t x) fun k a=>okV (arI .sub k 0 a) h n 24
def stNt (x:RO):St:=fun _ _ _ _ t h n=>gB (.bad [25]) (ev t x) fun a=>.ok (mkB (notB a)) h n
def stCv (k:IntKind) (x:RO):St:=fun _ _ _ _ t h n=>gI (.bad [26]) (ev t x) fun _ a=>okV (wrapI k a) h n 26
def stMf (f:Nat) (cs:List RO):St:=fun _ _ _ _ t h n=>nU (.bad [27]) (evL t cs) fun c=>.ok (.fn f c) h n
def stMs (z:RV) (l c:RO):St:=fun _ _ _ _ t h n=>gI (.bad [28]) (ev t l) fun j a=>gI (.bad [29]) (ev t c) fun k b=>
 bf (bf (is64 j) (is64 k) false) (bf (nonI a) (bf (nonI b) (bf (Nat.ble (natI a) (natI b)) (bf (Nat.ble (natI b) 65536) (newCh h n (rep z (natI b)) (.sl n 0 (natI a) (natI b))) (.bad [30])) (.bad [31])) (.bad [32])) (.bad [33])) (.bad [34])
def stSc (es:Nat) (x:RO) (lo hi mx:Option RO):St:=fun _ _ _ _ t h n=>gO (.bad [35]) (slLen (ev t x)) fun l=>gO (.bad [36]) (optN t lo 0) fun a=>gO (.bad [37]) (optN t hi l) fun b=>
 gO (okV (slV es (ev t x) a b none) h n 38) mx fun m=>gO (.bad [39]) (optN t (some m) 0) fun m=>okV (slV es (ev t x) a b (some m)) h n 38
def stSs (x:RO) (lo hi:Option RO):St:=fun _ _ _ _ t h n=>gS (.bad [40]) (ev t x) fun l=>gO (.bad [41]) (optN t lo 0) fun a=>gO (.bad [42]) (optN t hi l.length) fun b=>
 bf (Nat.ble a b) (bf (Nat.ble b l.length) (.ok (.s ((l.take b).drop a)) h n) (.bad [43])) (.bad [44])
def stSa (k es:Nat) (x:RO) (lo hi:Option RO):St:=fun _ _ _ _ t h n=>gP (.bad [45]) (ev t x) fun b o=>gO (.bad [46]) (optN t lo 0) fun a=>gO (.bad [47]) (optN t hi k) fun e=>okV (slK es b o a e k) h n 48
def stFa (off:Nat) (x:RO):St:=fun _ _ _ _ t h n=>gP (.bad [49]) (ev t x) fun b o=>.ok (.p b (Nat.add o off)) h n
def partC (g:Bool) (c:RV) (off m:Nat) (h:HT) (n:Nat):SR:=bf g (nU (.bad [50]) (chSub c m off) fun r=>.ok (.agg r) h n) (okV (chGet c off) h n 51)
def stFd (g:Bool) (off m:Nat) (x:RO):St:=fun _ _ _ _ t h n=>gA (.bad [52]) (ev t x) fun c=>partC g c off m h n
def ixN (v:RV) (l:Nat) (k:Nat→SR):SR:=gI (.bad [53]) v fun _ a=>bf (nonI a) (bf (Nat.ble (Nat.succ (natI a)) l) (k (natI a)) (.bad [54])) (.bad [55])
def stIa (es:Nat) (x i:RO):St:=fun _ _ _ _ t h n=>gL (.bad [56]) (ev t x) (.bad [57]) (fun b o l _=>ixN (ev t i) l fun a=>.ok (.p b (Nat.add o (Nat.mul a es))) h n) (fun b o l _=>ixN (ev t i) l fun a=>.ok (.p b (Nat.add o (Nat.mul a es))) h n) (fun _ _=>.bad [58])
def stIp (m es:Nat) (x i:RO):St:=fun _ _ _ _ t h n=>gP (.bad [59]) (ev t x) fun b o=>ixN (ev t i) m fun a=>.ok (.p b (Nat.add o (Nat.mul a es))) h n
def stIx (g:Bool) (m es:Nat) (x i:RO):St:=fun _ _ _ _ t h n=>gA (.bad [60]) (ev t x) fun c=>ixN (ev t i) m fun a=>partC g c (Nat.mul a es) es h n
def stSx (x i:RO):St:=fun _ _ _ _ t h n=>gS (.bad [61]) (ev t x) fun l=>ixN (ev t i) l.length fun a=>gO (.bad [62]) l[a]? fun c=>.ok (.i .u8 (Int.ofNat c)) h n
def stEx (k:Nat) (x:RO):St:=fun _ _ _ _ t h n=>gT (.bad [63]) (ev t x) fun c=>okV (chGet c k) h n 64
def stCl (f:Nat) (as:List RO):St:=fun _ cl fl _ t h n=>nU (.bad [65]) (evL t as) fun c=>cl f c fl h n
def stCf (x:RO) (as:List RO):St:=fun _ cl fl _ t h n=>gF (.bad [66]) (ev t x) fun f c=>nU (.bad [67]) (evL t as) fun a=>bf (Nat.ble BND f) (gN (.bad [150]) c (.bad [151]) fun y r=>bf (Nat.ble 33554432 f) (gN (.bad [153]) r (cl (Nat.sub f BND) (.cons y a) fl h n) fun _ _=>.bad [154]) (nU (.bad [152]) (chApp a r) fun q=>cl (Nat.sub f BND) (.cons y q) fl h n)) (nU (.bad [68]) (chApp a c) fun r=>cl f r fl h n)
def stLn (st:Bool) (x:RO):St:=fun _ _ _ _ t h n=>bf st (gS (.bad [68]) (ev t x) fun l=>okV (mkI .i64 (Int.ofNat l.length)) h n 69) (gO (.bad [69]) (slLen (ev t x)) fun l=>okV (mkI .i64 (Int.ofNat l)) h n 69)
def stCp (x:RO):St:=fun _ _ _ _ t h n=>gL (.bad [70]) (ev t x) (.ok (.i .i64 (Int.ofNat 0)) h n) (fun _ _ _ c=>.ok (.i .i64 (Int.ofNat c)) h n) (fun _ _ _ _=>.bad [71]) (fun _ _=>.bad [72])
def gMK (d:α) (v:RB) (k:CT→α):α:=@RB.rec (fun _=>α→(CT→α)→α) (fun d _=>d) (fun c z d k=>bf (Nat.beq z MAPZ) (k c) d) v d k
def gW (d:α) (h:HT) (v:RV) (k:Nat→List Nat→α):α:=gL d v d (fun _ _ _ _=>d) (fun b o l e=>bf (Nat.beq o 0) (bf (Nat.beq e 1) (gMK d (hg h b) fun c=>gS d (cg c 0) fun s=>bf (Nat.beq s.length l) (k b s) d) d) d) (fun _ _=>d)
def wide (h:HT) (n:Nat) (l:List Nat):SR:=fT (cst ce (.s l) 0) fun c=>fT (hst h (.bk c MAPZ) n) fun h=>.ok (.su n 0 l.length 1) h (Nat.succ n)
def appW (fl es:Nat) (x y:RV) (h:HT) (n:Nat):SR:=gS (app fl es x y h n) y fun r=>gW (app fl es x y h n) h x fun b l=>bf (Nat.beq es 1) (bf (Nat.ble fl b) (bf (Nat.ble (Nat.add l.length r.length) 1048576) (wide (hst h .no b) n (l ++ r)) (.bad [240])) (.bad [241])) (.bad [242])
def stAp (es:Nat) (x y:RO):St:=fun _ _ fl _ t h n=>appW fl es (ev t x) (ev t y) h n
def stSl (fl:Nat) (x c:RV) (h:HT) (n:Nat) (v:RV):SR:=gL (.bad [73]) x (.bad [74]) (fun b o _ _=>gR (stBlk fl h b o c n) fun _ h n=>okV v h n 75) (fun b o _ _=>gR (stBlk fl h b o c n) fun _ h n=>okV v h n 75) (fun _ _=>.bad [76])
def stCy (es:Nat) (x y:RO):St:=fun _ _ fl _ t h n=>gO (.bad [77]) (slLen (ev t x)) fun a=>gO (.bad [78]) (slLen (ev t y)) fun b=>bf (Nat.beq (bf (Nat.ble b a) b a) 0) (.ok (.i .i64 (Int.ofNat 0)) h n)
 (nU (.bad [79]) (slCells h es (ev t y) (bf (Nat.ble b a) b a)) fun c=>stSl fl (ev t x) c h n (mkI .i64 (Int.ofNat (bf (Nat.ble b a) b a))))
def stMm (mx:Bool) (x y:RO):St:=fun _ _ _ _ t h n=>gI (.bad [80]) (ev t x) fun k a=>gI (.bad [81]) (ev t y) fun j b=>bf (eqK k j) (okV (mkI k (bf (bf mx (ltI a b) (ltI b a)) b a)) h n 82) (.bad [83])
def stCr (z:RV) (x:RO):St:=fun _ _ fl _ t h n=>gO (.bad [84]) (slLen (ev t x)) fun l=>bf (Nat.beq l 0) (.ok (.tup .nil) h n) (nU (.bad [85]) (rep z l) fun c=>stSl fl (ev t x) c h n (.tup .nil))
def eqCell (ys:Ys) (k:Nat) (a b:RV):RV:=bf (Nat.beq k 0) (gB .un a fun p=>gB .un b fun q=>mkB (eqB p q)) (bf (Nat.beq k 1) (gY .un a fun _ _=>gY .un b fun _ _=>binV ys .eql a b) (gS .un a fun l=>gS .un b fun r=>mkB (eqL l r)))
def eqCh (ys:Ys) (ks:List Nat):RV→RV→RV:=@List.rec Nat (fun _=>RV→RV→RV) (fun _ _=>.b true) (fun k _ ih c d=>gN .un c .un fun a r=>gN .un d .un fun b q=>gB .un (eqCell ys k a b) fun x=>bf x (ih r q) (.b false)) ks
def isIf (ks:List Nat):Bool:=@List.rec Nat (fun _=>Bool) false (fun x _ _=>Nat.beq x 99) ks
def tlN (ks:List Nat):List Nat:=@List.rec Nat (fun _=>List Nat) [] (fun _ t _=>t) ks
def memN (f:Nat) (ks:List Nat):Bool:=@List.rec Nat (fun _=>Bool) false (fun x _ ih=>bf (Nat.beq x f) true ih) ks
def ifP (v:RV) (k:Nat→RV→RV):RV:=gF .un v fun f c=>bf (Nat.ble 33554432 f) (gN .un c .un fun u r=>gN .un u (gN .un r .un fun x q=>gN .un q (k f x) fun _ _=>.un) fun _ _=>.un) .un
def eqIf (ks:List Nat) (a b:RV):RV:=ifP a fun f x=>ifP b fun g y=>bf (Nat.beq f g) (bf (memN (Nat.sub f 33554432) ks) (gI .un x fun k p=>gI .un y fun j q=>bf (eqK k j) (mkB (eqI p q)) .un) .un) (.b false)
def stSe (ks:List Nat) (neg:Bool) (x y:RO):St:=fun ys _ _ _ t h n=>bf (isIf ks) (gB (.bad [123]) (eqIf (tlN ks) (ev t x) (ev t y)) fun r=>.ok (mkB (eqB neg (notB r))) h n) (gA (.bad [120]) (ev t x) fun c=>gA (.bad [121]) (ev t y) fun d=>gB (.bad [122]) (eqCh ys ks c d) fun r=>.ok (mkB (eqB neg (notB r))) h n)
/-! maps -/
def stMk:St:=fun _ _ _ _ _ h n=>fT (cst ce (.i .i64 (.ofNat 0)) 0) fun cs=>fT (hst h (.bk cs MAPZ) n) fun h=>.ok (.mp n) h (Nat.succ n)
def kOf0 (v:RV):Nat:=gB (gI (gS 0 v fun _=>2) v fun k _=>Nat.add 3 (kN k)) v fun _=>1
def kEq0 (a b:RV):Bool:=gB (gI (gS false a fun l=>gS false b fun r=>eqL l r) a fun _ x=>gI false b fun _ y=>eqI x y) a fun x=>gB false b fun y=>eqB x y
def kCode (c:RV):Nat:=@RV.rec (fun _=>Nat) 0 0 (fun _=>0) (fun _ _=>0) (fun _ _=>0) (fun _=>0) 0 (fun _ _=>0) 0 (fun _ _ _ _=>0) (fun _ _ _ _=>0) (fun _ _=>0) 0 (fun _ _ _=>0) 12
 (fun x _ _ ih=>Nat.add (Nat.succ (kOf0 x)) (Nat.mul 16 ih)) (fun _ _=>0) (fun _ _=>0) (fun _=>0) c
def kEqC (c:RV):RV→Bool:=@RV.rec (fun _=>RV→Bool) (fun _=>false) (fun _=>false) (fun _ _=>false) (fun _ _ _=>false) (fun _ _ _=>false) (fun _ _=>false) (fun _=>false) (fun _ _ _=>false) (fun _=>false) (fun _ _ _ _ _=>false) (fun _ _ _ _ _=>false) (fun _ _ _=>false) (fun _=>false) (fun _ _ _ _=>false) (fun d=>gN false d true fun _ _=>false)
 (fun x _ _ ih d=>gN false d false fun y q=>bf (kEq0 x y) (ih q) false) (fun _ _ _=>false) (fun _ _ _=>false) (fun _ _=>false) c
def isNp (v:RV):Bool:=match v with | .np=>true | _=>false
def kEqP (a b:RV):Bool:=gP (bf (isNp a) (isNp b) (kEq0 a b)) a fun x o=>gP false b fun y p=>bf (Nat.beq x y) (Nat.beq o p) false
def kOf (v:RV):Nat:=gA (gP (bf (isNp v) 12 (kOf0 v)) v fun _ _=>12) v fun c=>Nat.add 11 (Nat.mul 16 (kCode c))
def kEq (a b:RV):Bool:=gA (kEqP a b) a fun c=>gA false b fun d=>kEqC c d
/-! keys with letters in them: alike for sure,unlike for sure -/
def kOz0 (v:RV):Nat:=gB (gY (gS 0 v fun _=>2) v fun k _=>Nat.add 3 (kN k)) v fun _=>1
def neS (a b:SE):Bool:=match a,b with | .c x,.c y=>notB (eqI x y) | _,_=>false
def yT (o:Option Bool):Bool:=match o with | some x=>x | none=>false
def yF (o:Option Bool):Bool:=match o with | some x=>notB x | none=>false
def kEz0 (ys:Ys) (a b:RV):Bool:=gB (gY (gS false a fun l=>gS false b fun r=>eqL l r) a fun _ x=>gY false b fun _ y=>bf (eqS x y) true (yT (ys .eql x y))) a fun x=>gB false b fun y=>eqB x y
def kNz0 (ys:Ys) (a b:RV):Bool:=gB (gY (gS false a fun l=>gS false b fun r=>notB (eqL l r)) a fun _ x=>gY false b fun _ y=>bf (neS x y) true (yF (ys .eql x y))) a fun x=>gB false b fun y=>notB (eqB x y)
def kCodz (c:RV):Nat:=@RV.rec (fun _=>Nat) 0 0 (fun _=>0) (fun _ _=>0) (fun _ _=>0) (fun _=>0) 0 (fun _ _=>0) 0 (fun _ _ _ _=>0) (fun _ _ _ _=>0) (fun _ _=>0) 0 (fun _ _ _=>0) 12
 (fun x _ _ ih=>Nat.add (Nat.succ (kOz0 x)) (Nat.mul 16 ih)) (fun _ _=>0) (fun _ _=>0) (fun _=>0) c
def kEzC (ys:Ys) (c:RV):RV→Bool:=@RV.rec (fun _=>RV→Bool) (fun _=>false) (fun _=>false) (fun _ _=>false) (fun _ _ _=>false) (fun _ _ _=>false) (fun _ _=>false) (fun _=>false) (fun _ _ _=>false) (fun _=>false) (fun _ _ _ _ _=>false) (fun _ _ _ _ _=>false) (fun _ _ _=>false) (fun _=>false) (fun _ _ _ _=>false) (fun d=>gN false d true fun _ _=>false)
 (fun x _ _ ih d=>gN false d false fun y q=>bf (kEz0 ys x y) (ih q) false) (fun _ _ _=>false) (fun _ _ _=>false) (fun _ _=>false) c
def kNzC (ys:Ys) (c:RV):RV→Bool:=@RV.rec (fun _=>RV→Bool) (fun _=>false) (fun _=>false) (fun _ _=>false) (fun _ _ _=>false) (fun _ _ _=>false) (fun _ _=>false) (fun _=>false) (fun _ _ _=>false) (fun _=>false) (fun _ _ _ _ _=>false) (fun _ _ _ _ _=>false) (fun _ _ _=>false) (fun _=>false) (fun _ _ _ _=>false) (fun _=>false)
 (fun x _ _ ih d=>gN false d false fun y q=>bf (kNz0 ys x y) true (ih q)) (fun _ _ _=>false) (fun _ _ _=>false) (fun _ _=>false) c
def kOz (v:RV):Nat:=gA (gP (bf (isNp v) 12 (kOz0 v)) v fun _ _=>12) v fun c=>Nat.add 11 (Nat.mul 16 (kCodz c))
def kEz (ys:Ys) (a b:RV):Bool:=gA (gP (bf (isNp a) (kEq a b) (kEz0 ys a b)) a fun _ _=>kEq a b) a fun c=>gA false b fun d=>kEzC ys c d
def kNz (ys:Ys) (a b:RV):Bool:=gA (gP (bf (isNp a) (notB (kEq a b)) (kNz0 ys a b)) a fun _ _=>notB (kEq a b)) a fun c=>gA false b fun d=>kNzC ys c d
def isBk (b:RB):Bool:=@RB.rec (fun _=>Bool) false (fun _ z=>notB (Nat.beq z MAPZ)) b
def alive (fl:Nat) (h:HT) (v:RV):Bool:=gP true v fun b _=>bf (Nat.ble fl b) (isBk (hg h b)) false
def mAl (fl:Nat) (h:HT) (key:RV) (cs:CT) (s:Nat):Bool:=bf (alive fl h key) (@Nat.rec (fun _=>Bool) true (fun i ih=>bf (alive fl h (cg cs (Nat.add 1 (Nat.mul 2 i)))) ih false) s) false
def mOk (q fl:Nat) (h:HT) (key:RV) (cs:CT) (s:Nat):Bool:=bf (Nat.beq q 12) (mAl fl h key cs s) true
def mFind (ys:Ys) (q:Nat) (cs:CT) (key:RV) (m:Nat):Nat→Option (Option Nat):=@Nat.rec (fun _=>Nat→Option (Option Nat)) (fun _=>some none)
 (fun _ ih i=>bf (Nat.beq (kOz (cg cs (Nat.add 1 (Nat.mul 2 i)))) q) (bf (kEz ys key (cg cs (Nat.add 1 (Nat.mul 2 i)))) (some (some i)) (bf (kNz ys key (cg cs (Nat.add 1 (Nat.mul 2 i)))) (ih (Nat.succ i)) none)) none) m
def mSize (cs:CT):Option Nat:=gI none (cg cs 0) fun _ s=>bf (nonI s) (some (natI s)) none
def mSet (cs:CT) (key v:RV) (s:Nat) (q:Option Nat):CT:=
 @Option.rec Nat (fun _=>CT) (fT (cst cs key (Nat.add 1 (Nat.mul 2 s))) fun cs=>fT (cst cs v (Nat.add 2 (Nat.mul 2 s))) fun cs=>cst cs (.i .i64 (.ofNat (Nat.succ s))) 0) (fun i=>cst cs v (Nat.add 2 (Nat.mul 2 i))) q
def stMi (q0:Nat) (m k x:RO):St:=fun ys _ fl _ t h n=>gM (.bad [130]) (ev t m) fun b=>bf (Nat.ble fl b) (gMK (.bad [131]) (hg h b) fun cs=>gO (.bad [132]) (mSize cs) fun s=>bf (Nat.ble s 65536)
 (bf (bf (mOk q0 fl h (ev t k) cs s) (Nat.beq (kOz (ev t k)) q0) false) (gO (.bad [134]) (mFind ys q0 cs (ev t k) s 0) fun q=>nU (.bad [135]) (ev t x) fun v=>nU (.bad [136]) (ev t k) fun key=>fT (mSet cs key v s q) fun cs=>fT (hst h (.bk cs MAPZ) b) fun h=>.ok .ud h n) (.bad [133])) (.bad [137])) (.bad [138])
def mRes (two:Bool) (z:RV) (cs:CT) (h:HT) (n:Nat) (q:Option Nat):SR:=nU (.bad [139]) (@Option.rec Nat (fun _=>RV) z (fun i=>cg cs (Nat.add 2 (Nat.mul 2 i))) q) fun v=>
 bf two (.ok (.tup (.cons v (.cons (.b (@Option.rec Nat (fun _=>Bool) false (fun _=>true) q)) .nil))) h n) (.ok v h n)
def stMl (q0:Nat) (z:RV) (two:Bool) (m k:RO):St:=fun ys _ fl lim t h n=>gM (.bad [140]) (ev t m) fun b=>bf (Nat.ble (Nat.succ b) lim) (gMK (.bad [141]) (hg h b) fun cs=>gO (.bad [142]) (mSize cs) fun s=>
 bf (bf (mOk q0 fl h (ev t k) cs s) (Nat.beq (kOz (ev t k)) q0) false) (gO (.bad [144]) (mFind ys q0 cs (ev t k) s 0) fun q=>mRes two z cs h n q) (.bad [143])) (.bad [145])
def stFg:St:=fun _ _ _ _ _ h n=>.ok .un h n
def stAz (es:Nat) (z:RV) (x y:RO):St:=fun _ _ fl _ t h n=>gI (.bad [171]) (ev t y) fun j a=>bf (is64 j) (bf (nonI a) (bf (Nat.ble (natI a) 65536) (gO (.bad [170]) (slLen (ev t x)) fun l=>bf (Nat.beq (natI a) 0) (okV (ev t x) h n 172)
 (bf (Nat.ble l 1048576) (nU (.bad [177]) (rep z (natI a)) fun c=>gO (.bad [176]) (chLen c) fun q=>bf (Nat.beq q (Nat.mul (natI a) es)) (appC fl es (ev t x) (natI a) c h n) (.bad [179])) (.bad [178]))) (.bad [173])) (.bad [174])) (.bad [175])
def gIf (d:SR) (v:RV) (z:SR) (k:Nat→RV→SR):SR:=gF d v fun f c=>bf (Nat.ble 33554432 f) (gN d c z fun y r=>gN d y (gN d r d fun x q=>gN d q (k f x) fun _ _=>d) fun _ _=>d) d
def isA (t:Nat) (v:RV) (k:Nat→Nat→SR):SR:=gIf (.bad [211]) v (.bad [212]) fun f x=>bf (Nat.beq f (Nat.add 33554432 t)) (gP (.bad [213]) x k) (.bad [214])
def isX (ch a:RV) (h:HT) (n:Nat):SR:=gP (.bad [210]) ch fun tr tp=>gN (.bad [215]) a (.bad [215]) fun x r=>gN (.bad [215]) r (.bad [215]) fun y q=>gN (.bad [215]) q
 (isA tr x fun b o=>isA tp y fun b2 o2=>gK (.bad [216]) (hg h b) fun cs _=>isA tp (cg cs (Nat.succ o)) fun b1 o1=>gK (.bad [217]) (hg h b1) fun _ _=>gK (.bad [218]) (hg h b2) fun _ _=>bf (Nat.ble 97 b1) (bf (Nat.ble 97 b2) (bf (Nat.beq b1 b2) (.bad [219]) (bf (Nat.beq o1 o2) (.ok (.b false) h n) (.bad [222]))) (.bad [220])) (.bad [220]))
 fun _ _=>.bad [215]
def rowX (ch:RV) (h:HT) (n:Nat):SR:=gO (.bad [221]) (chLen ch) fun z=>newBlk h n (lay ch ce 0) z (.sl n 0 z z)
def taNo (z:RV) (two:Bool) (h:HT) (n:Nat):SR:=bf two (nU (.bad [181]) z fun z=>.ok (.tup (.cons z (.cons (.b false) .nil))) h n) (.bad [182])
def taYes (two:Bool) (v:RV) (h:HT) (n:Nat):SR:=nU (.bad [183]) v fun v=>bf two (.ok (.tup (.cons v (.cons (.b true) .nil))) h n) (.ok v h n)
def stTa (ty:Nat) (z:RV) (two:Bool) (x:RO):St:=fun _ _ _ _ t h n=>gIf (.bad [180]) (ev t x) (taNo z two h n) fun f v=>bf (Nat.beq f (Nat.add 33554432 ty)) (taYes two v h n) (taNo z two h n)
def ivR (st g:Bool) (off m:Nat) (v:RV) (h:HT) (n:Nat):SR:=bf st (gA (.bad [184]) v fun c=>partC g c off m h n) (okV v h n 185)
def ivE (f:Nat) (e:IvE) (v:RV) (h:HT) (n:Nat) (k:Nat→RV→SR) (d:SR):SR:=@IvE.rec (fun _=>SR) (fun ty g st ag off m=>bf (Nat.beq f (Nat.add 33554432 ty)) (gR (ivR st ag off m v h n) fun r _ _=>k g r) d) e
def ivL (f:Nat) (l:List IvE) (v:RV) (h:HT) (n:Nat) (k:Nat→RV→SR):SR:=@List.rec IvE (fun _=>SR) (.bad [188]) (fun e _ d=>ivE f e v h n k d) l
def stIv (l:List IvE) (x:RO) (as:List RO):St:=fun _ cl fl _ t h n=>gIf (.bad [189]) (ev t x) (.bad [190]) fun f v=>ivL f l v h n fun g r=>nU (.bad [191]) (evL t as) fun a=>cl g (.cons r a) fl h n
def chS (c:RV):Option (List Nat):=@RV.rec (fun _=>Option (List Nat)) none none (fun _=>none) (fun _ _=>none) (fun _ _=>none) (fun _=>none) none (fun _ _=>none) none (fun _ _ _ _=>none) (fun _ _ _ _=>none) (fun _ _=>none) none (fun _ _ _=>none) (some [])
 (fun x _ _ ih=>gI none x fun k z=>bf (eqK k .u8) (bf (nonI z) (bf (Nat.ble (natI z) 255) (gO none ih fun l=>some (natI z::l)) none) none) none) (fun _ _=>none) (fun _ _=>none) (fun _=>none) c
def rdS (v:RV) (h:HT) (n:Nat):SR:=gO (.bad [192]) (slLen v) fun m=>bf (Nat.ble m 1048576) (nU (.bad [193]) (slCells h 1 v m) fun c=>gO (.bad [194]) (chS c) fun l=>.ok (.s l) h n) (.bad [195])
def rdW (v:RV) (h:HT) (n:Nat):SR:=gW (rdS v h n) h v fun _ l=>.ok (.s l) h n
def stB2 (st:Bool) (x:RO):St:=fun _ _ _ _ t h n=>bf st (gS (.bad [243]) (ev t x) fun l=>wide h n l) (rdW (ev t x) h n)
def stPq (neg:Bool) (x y:RO):St:=fun _ _ fl _ t h n=>bf (bf (Nat.beq (kOf (ev t x)) 12) (bf (Nat.beq (kOf (ev t y)) 12) (bf (alive fl h (ev t x)) (alive fl h (ev t y)) false) false) false)
 (.ok (mkB (eqB neg (notB (kEq (ev t x) (ev t y))))) h n) (.bad [197])
def step (o:RP):St:=@RP.rec (fun _=>St) stMv stPick stAl stBx stBd stBs stLd stSt stNc stBn stBq stNq stNg stNt stCv stMf stMs stSc stSs stSa stFa stFd stIa stIp stIx stSx stEx stCl stCf stLn stCp stAp stCy stMm stCr stSe stMk stMi stMl stFg stAz stTa stIv stB2 stPq o
inductive W3 where | y | n | u
def want (t:FT) (g:G):W3:=@G.rec (fun _=>FT→W3) (fun _=>.y)
 (fun p w t=>match tg t p with
  | .b x=>bf (eqB x w) .y .n
  | .ud=>.n
  | _=>.u) g t
def put (t:FT) (d:D) (v:RV):FT:=@D.rec (fun _=>FT→RV→FT) (fun t _=>t) (fun p t v=>tst t v p) d t v
abbrev Bd:=FT→HT→Nat→BR
def opsOk (d:D) (t:FT) (r:SR) (ih:Bd):BR:=@SR.rec (fun _=>D→FT→Bd→BR) (fun v h n d t ih=>fT (put t d v) fun t=>ih t h n) (fun w _ _ _=>.bad w) r d t ih
def opsW (ys:Ys) (cl:Cl') (fl:Nat) (d:D) (o:RP) (ih:Bd) (t:FT) (h:HT) (n:Nat) (w:W3):BR:=
 @W3.rec (fun _=>Ys→Cl'→Nat→D→RP→Bd→FT→HT→Nat→BR)
  (fun ys cl fl d o ih t h n=>opsOk d t (step o ys cl fl 1152921504606846976 t h n) ih)
  (fun _ _ _ d _ ih t h n=>fT (put t d .ud) fun t=>ih t h n)
  (fun _ _ _ _ _ _ _ _ _=>.bad [99]) w ys cl fl d o ih t h n
def opsQ (q:RQ) (ys:Ys) (cl:Cl') (fl:Nat) (ih:Bd) (t:FT) (h:HT) (n:Nat):BR:=
 @RQ.rec (fun _=>Ys→Cl'→Nat→Bd→FT→HT→Nat→BR) (fun d g _ o ys cl fl ih t h n=>opsW ys cl fl d o ih t h n (want t g)) q ys cl fl ih t h n
def ops (ys:Ys) (cl:Cl') (fl:Nat) (l:List RQ):Bd:=@List.rec RQ (fun _=>Bd) .nx (fun q _ ih=>opsQ q ys cl fl ih) l
/-! a region that draws its order: loads that were seen,memory as it was behind each operation that turns it -/
def eqV (a:RV):RV→Bool:=@RV.rec (fun _=>RV→Bool) (fun b=>nU true b fun _=>false) (fun _=>false) (fun x b=>gB false b fun y=>eqB x y) (fun k x b=>gI false b fun j y=>bf (eqK k j) (eqI x y) false)
 (fun k x b=>@RV.rec (fun _=>Bool) false false (fun _=>false) (fun _ _=>false) (fun j y=>bf (eqK k j) (eqS x y) false) (fun _=>false) false (fun _ _=>false) false (fun _ _ _ _=>false) (fun _ _ _ _=>false) (fun _ _=>false) false (fun _ _ _=>false) false (fun _ _ _ _=>false) (fun _ _=>false) (fun _ _=>false) (fun _=>false) b)
 (fun l b=>gS false b fun r=>eqL l r) (fun b=>@RV.rec (fun _=>Bool) false false (fun _=>false) (fun _ _=>false) (fun _ _=>false) (fun _=>false) true (fun _ _=>false) false (fun _ _ _ _=>false) (fun _ _ _ _=>false) (fun _ _=>false) false (fun _ _ _=>false) false (fun _ _ _ _=>false) (fun _ _=>false) (fun _ _=>false) (fun _=>false) b)
 (fun x o b=>gP false b fun y q=>bf (Nat.beq x y) (Nat.beq o q) false)
 (fun b=>gL false b true (fun _ _ _ _=>false) (fun _ _ _ _=>false) (fun _ _=>false))
 (fun x o l c b=>gL false b false (fun y q k e=>bf (Nat.beq x y) (bf (Nat.beq o q) (bf (Nat.beq l k) (Nat.beq c e) false) false) false) (fun _ _ _ _=>false) (fun _ _=>false))
 (fun x o l c b=>gL false b false (fun _ _ _ _=>false) (fun y q k e=>bf (Nat.beq x y) (bf (Nat.beq o q) (bf (Nat.beq l k) (Nat.beq c e) false) false) false) (fun _ _=>false))
 (fun x e b=>gL false b false (fun _ _ _ _=>false) (fun _ _ _ _=>false) (fun y f=>bf (Nat.beq x y) (Nat.beq e f) false))
 (fun b=>@RV.rec (fun _=>Bool) false false (fun _=>false) (fun _ _=>false) (fun _ _=>false) (fun _=>false) false (fun _ _=>false) false (fun _ _ _ _=>false) (fun _ _ _ _=>false) (fun _ _=>false) true (fun _ _ _=>false) false (fun _ _ _ _=>false) (fun _ _=>false) (fun _ _=>false) (fun _=>false) b)
 (fun f _ ih b=>gF false b fun k c=>bf (Nat.beq f k) (ih c) false)
 (fun b=>gN false b true fun _ _=>false) (fun _ _ ih it b=>gN false b false fun x y=>bf (ih x) (it y) false) (fun _ ih b=>gA false b ih) (fun _ ih b=>gT false b ih) (fun x b=>gM false b fun y=>Nat.beq x y) a
def lst1 (x:RV) (h:HT) (k:RV→SR):SR:=gO (.bad [231]) (slLen x) fun m=>bf (Nat.beq m 1) (nU (.bad [232]) (slCells h 1 x 1) fun c=>gN (.bad [233]) c (.bad [233]) fun y r=>gN (.bad [234]) r (k y) fun _ _=>.bad [234]) (.bad [235])
def digX (v:RV) (h:HT) (n:Nat):SR:=gI (.bad [238]) v fun j z=>bf (is64 j) (bf (nonI z) (bf (Nat.ble (natI z) 9) (.ok (.s [Nat.add 48 (natI z),10]) h n) (.bad [239])) (.bad [244])) (.bad [245])
def lstX (a:RV) (h:HT) (n:Nat):SR:=gN (.bad [236]) a (.bad [236]) fun x r=>gN (.bad [236]) r (.bad [236]) fun e q=>gN (.bad [236]) q (gI (.bad [237]) e fun k z=>bf (is64 k) (bf (eqI z 0) (lst1 x h fun y=>lst1 y h fun v=>digX v h n) (.bad [237])) (.bad [237])) fun _ _=>.bad [236]
def toldX (_ys:BinOp→SE→SE→Option Bool) (es:Nat) (ch:RV) (a:RV) (fl:Nat) (h:HT) (n:Nat):SR:=bf (Nat.ble 16777216 es) (bf (Nat.ble 33554432 es) (bf (Nat.ble 50331648 es) (bf (Nat.ble 67108864 es) (lstX a h n) (rowX ch h n)) (isX ch a h n)) (joinX a h n)) (insX es a fl h n)
inductive CK where | k (p q b o:Nat) (g:Bool) (m:Nat) (v:RV)
def rdV (g:Bool) (m:Nat) (cs:CT) (o:Nat):RV:=bf g (nU .un (rd cs m o) fun c=>.agg c) (cg cs o)
def ckIn (h:HT) (j:Nat) (c:CK):Bool:=@CK.rec (fun _=>HT→Nat→Bool) (fun p q b o g m v h j=>bf (Nat.ble p j) (bf (Nat.ble j q) (gK false (hg h b) fun cs _=>eqV (rdV g m cs o) v) true) true) c h j
def ckAll (l:List CK) (h:HT) (j:Nat):Bool:=@List.rec CK (fun _=>HT→Nat→Bool) (fun _ _=>true) (fun c _ ih h j=>bf (ckIn h j c) (ih h j) false) l h j
def ckOver (hs:List HT) (l:List CK):Bool:=@List.rec HT (fun _=>List CK→Bool) (fun _=>true) (fun h r ih l=>bf (ckAll l h r.length) (ih l) false) hs l
abbrev Dd:=FT→HT→Nat→List CK→List HT→BR
def ckOf (p q:Nat) (o:RP) (t:FT) (n0:Nat) (v:RV) (l:List CK):Option (List CK):=match o with
 | .ld g m a=>gP none (ev t a) fun b o=>bf (Nat.ble (Nat.succ b) n0) (some (.k p q b o g m v::l)) none
 | _=>none
def dOk (d:D) (k:K3) (o:RP) (n0:Nat) (t:FT) (r:SR) (cs:List CK) (hs:List HT) (ih:Dd):BR:=
 @SR.rec (fun _=>D→K3→RP→Nat→FT→List CK→List HT→Dd→BR) (fun v h n d k o n0 t cs hs ih=>fT (put t d v) fun t'=>
  @K3.rec (fun _=>BR) (ih t' h n cs hs) (ih t' h n cs hs) (fun p q=>gO (.bad [96]) (ckOf p q o t n0 v cs) fun cs=>ih t' h n cs hs) (ih t' h n cs (h::hs)) k) (fun w _ _ _ _ _ _ _ _=>.bad w) r d k o n0 t cs hs ih
def limOf (k:K3) (n0:Nat):Nat:=@K3.rec (fun _=>Nat→Nat) (fun _=>1152921504606846976) (fun n0=>n0) (fun _ _ n0=>n0) (fun _=>1152921504606846976) k n0
def dW (ys:Ys) (cl:Cl') (fl n0:Nat) (d:D) (k:K3) (o:RP) (ih:Dd) (t:FT) (h:HT) (n:Nat) (cs:List CK) (hs:List HT) (w:W3):BR:=
 @W3.rec (fun _=>Ys→Cl'→Nat→Nat→D→K3→RP→Dd→FT→HT→Nat→List CK→List HT→BR)
  (fun ys cl fl n0 d k o ih t h n cs hs=>dOk d k o n0 t (step o ys cl fl (limOf k n0) t h n) cs hs ih)
  (fun _ _ _ _ d k _ ih t h n cs hs=>fT (put t d .ud) fun t=>@K3.rec (fun _=>BR) (ih t h n cs hs) (ih t h n cs hs) (fun _ _=>ih t h n cs hs) (ih t h n cs (h::hs)) k)
  (fun _ _ _ _ _ _ _ _ _ _ _ _ _=>.bad [99]) w ys cl fl n0 d k o ih t h n cs hs
def dQ (q:RQ) (ys:Ys) (cl:Cl') (fl n0:Nat) (ih:Dd) (t:FT) (h:HT) (n:Nat) (cs:List CK) (hs:List HT):BR:=
 @RQ.rec (fun _=>Ys→Cl'→Nat→Nat→Dd→FT→HT→Nat→List CK→List HT→BR) (fun d g k o ys cl fl n0 ih t h n cs hs=>dW ys cl fl n0 d k o ih t h n cs hs (want t g)) q ys cl fl n0 ih t h n cs hs
def dops (ys:Ys) (cl:Cl') (fl n0:Nat) (l:List RQ):Dd:=@List.rec RQ (fun _=>Dd) (fun t h n cs hs=>bf (ckOver hs cs) (bf (Nat.ble n 8388608) (.nx t h n) (.bad [93])) (.bad [94])) (fun q _ ih=>dQ q ys cl fl n0 ih) l
def andThen (r:BR) (k:Bd):BR:=@BR.rec (fun _=>Bd→BR) (fun t h n k=>k t h n) (fun id t h n _=>.ex id t h n) (fun t h n _=>.rt t h n) (fun w _=>.bad w) r k
def rounds (body:Bd) (k:Nat):Bd:=@Nat.rec (fun _=>Bd) body (fun _ ih t h n=>andThen (ih t h n) ih) k
def cdC (c:RV) (a b:Bd):Bd:=gB (fun _ _ _=>.bad [98]) c fun x=>bf x a b
def blC (r:BR) (id:Nat):BR:=@BR.rec (fun _=>Nat→BR) (fun t h n _=>.nx t h n) (fun j t h n id=>bf (Nat.beq j id) (.nx t h n) (.ex j t h n)) (fun t h n _=>.rt t h n) (fun w _=>.bad w) r id
def lpC (r:BR):BR:=@BR.rec (fun _=>BR) (fun _ _ _=>.bad [97]) (fun j t h n=>.ex j t h n) (fun t h n=>.rt t h n) (fun w=>.bad w) r
/-! a range over a function: a block for its record; what the iterator does; how the rounds have ended -/
def rfState (v:RV) (t:FT) (h:HT) (n:Nat):BR:=gF (.bad [184]) v fun _ s=>gB (gN (gP (.bad [185]) s fun id _=>.ex id t h n) s (.rt t h n) (fun _ _=>.bad [186])) s fun busy=>bf busy (.bad [187]) (.nx t h n)
def rfEnd (b:Nat) (t:FT) (r:SR):BR:=@SR.rec (fun _=>Nat→FT→BR) (fun _ h n b t=>gMK (.bad [183]) (hg h b) fun cs=>fT (hst h .no b) fun h'=>rfState (cg cs 0) t h' n) (fun w _ _=>.bad w) r b t
def rfC (cl:Cl') (fl:Nat) (g:RO) (key:Nat) (sv:List Pa):Bd:=fun t h n=>gF (.bad [180]) (ev t g) fun f c=>bf (Nat.ble BND f) (.bad [181]) (nU (.bad [182]) (evL t (sv.map RO.t)) fun vs=>bf (Nat.ble fl n)
 (fT (lay (.cons .np vs) ce 0) fun cs=>fT (cst cs (.fn key (.b false)) 0) fun cs=>fT (hst h (.bk cs MAPZ) n) fun h=>rfEnd n t (cl f (.cons (.fn (Nat.add 33554432 key) (.cons (.mp n) .nil)) c) fl h (Nat.succ n))) (.bad [188]))
def code (ys:Ys) (cl:Cl') (fl:Nat) (c:RC):Bd:=
 @RC.rec (fun _=>Bd) .nx (fun l t h n=>ops ys cl fl l t h n) (fun l t h n=>dops ys cl fl n l t h n [] [h]) (fun _ _ fa fb t h n=>andThen (fa t h n) fb)
  (fun c _ _ fa fb t h n=>cdC (ev t c) fa fb t h n) (fun id _ fa t h n=>blC (fa t h n) id) (fun _ fa t h n=>lpC (rounds fa 20 t h n))
  (fun id t h n=>.ex id t h n) .rt (fun g key sv=>rfC cl fl g key sv) c
def resC (h:HT) (v:RV) (g:Bool) (m:Nat):RV:=gP .un v fun b o=>gK .un (hg h b) fun cs _=>bf g (nU .un (rd cs m o) fun c=>.agg c) (cg cs o)
def res (t:FT) (h:HT) (l:List RS):RV:=@List.rec RS (fun _=>RV) .nil
 (fun x _ ih=>kons (@RS.rec (fun _=>FT→HT→RV) (fun p t _=>tg t p) (fun p g m t h=>resC h (tg t p) g m) x t h) ih) l
def ret (t:FT) (h:HT) (n:Nat) (l:List RS):SR:=gN (.bad [90]) (res t h l) (.ok (.tup .nil) h n) fun a r=>gN (.bad [89]) r (okV a h n 88) fun b q=>.ok (.tup (.cons a (.cons b q))) h n
def retR (r:BR) (f:Nat) (l:List RS):SR:=@BR.rec (fun _=>Nat→List RS→SR) (fun t h n _ l=>ret t h n l) (fun _ _ _ _ f _=>.bad [95,f]) (fun t h n _ l=>ret t h n l) (fun w f _=>.bad (f::w)) r f l
/-! a round -/
def laySl:List Pa→RV→FT→Option FT:=fun l=>@List.rec Pa (fun _=>RV→FT→Option FT) (fun c t=>gN none c (some t) fun _ _=>none) (fun p _ ih c t=>gN none c none fun x r=>ih r (tst t x p)) l
def rndSet (key b:Nat) (st:RV) (ans:Bool) (h:HT) (n:Nat):SR:=gMK (.bad [190]) (hg h b) fun cs=>gF (.bad [191]) (cg cs 0) fun k s=>bf (Nat.beq k key) (gB (.bad [192]) s fun busy=>bf busy (fT (cst cs (.fn key st) 0) fun cs=>fT (hst h (.bk cs MAPZ) b) fun h=>.ok (.b ans) h n) (.bad [193])) (.bad [194])
def rndEnd (key b:Nat) (r:BR):SR:=@BR.rec (fun _=>SR) (fun _ h n=>rndSet key b (.b false) true h n) (fun id _ h n=>rndSet key b (.p id 0) false h n) (fun _ h n=>rndSet key b .nil false h n) (fun w=>.bad w) r
def rndGo (key b:Nat) (body:Bd) (r:BR):SR:=@BR.rec (fun _=>SR) (fun t h n=>gMK (.bad [195]) (hg h b) fun cs=>gF (.bad [196]) (cg cs 0) fun k s=>bf (Nat.beq k key) (gB (.bad [197]) s fun busy=>bf busy (.bad [198]) (fT (cst cs (.fn key (.b true)) 0) fun cs=>fT (hst h (.bk cs MAPZ) b) fun h=>rndEnd key b (body t h n))) (.bad [199]))
 (fun _ _ _ _=>.bad [200]) (fun _ _ _=>.bad [201]) (fun w=>.bad w) r
def rndC (key nv:Nat) (sv ps:List Pa) (asg body:Bd) (a:RV) (fl:Nat) (h:HT) (n:Nat):SR:=gN (.bad [202]) a (.bad [203]) fun y xs=>gM (.bad [204]) y fun b=>bf (Nat.ble fl b) (gMK (.bad [205]) (hg h b) fun cs=>gF (.bad [206]) (cg cs 0) fun k _=>bf (Nat.beq k key) (nU (.bad [207]) (rd cs nv 1) fun vs=>
 gO (.bad [208]) (laySl sv vs te) fun t0=>gO (.bad [209]) (laySl ps xs t0) fun t1=>rndGo key b body (asg t1 h n)) (.bad [210])) (.bad [211])
def callF (ys:Ys) (cl:Cl') (f:Nat) (r:RF) (a:RV) (fl:Nat) (h:HT) (n:Nat):SR:=
 @RF.rec (fun _=>Ys→Cl'→Nat→RV→Nat→HT→Nat→SR) (fun np b rs ys cl f a fl h n=>gO (.bad [93]) (chLen a) fun m=>bf (Nat.beq m np) (retR (code ys cl fl b (lay a te 0) h n) f rs) (.bad [94,f]))
  (fun key nv sv ps asg body ys cl _ a fl h n=>rndC key nv sv ps (code ys cl fl asg) (code ys cl fl body) a fl h n) r ys cl f a fl h n
def call (ys:Ys) (fs:Nat→Option RF) (deep:Nat):Cl':=
 @Nat.rec (fun _=>Cl') (fun _ _ _ _ _=>.bad [91]) (fun _ ih f a fl h n=>gO (.bad [92,f]) (fs f) fun r=>callF ys ih f r a fl h n) deep
end
end Go.Rn
namespace Go.Rn
def pa (fuel:Nat) (k:Nat):Pa:=match fuel with
 | 0=>.z
 | f + 1=>if k≤1 then .z else if k % 2=0 then .o (pa f (k / 2)) else .i (pa f (k / 2))
def atom:Value→RV
 | .bool b=>.b b
 | .int k n=>.i k n
 | .string s=>.s (s.data.toList.map (·.toNat))
 | .pointer none=>.np
 | .slice none 0 0=>.ns
 | .nilFunc=>.nf
 | .nilIface=>.fn 33554432 .nil
 | .map none=>.fn 33554432 (.cons (.b true) .nil)
 | _=>.un
def chain:List Value→RV
 | []=>.nil
 | v::r=>.cons (atom v) (chain r)
def knownAtom (v:Value):Bool:=match atom v with | .un=>false | _=>true
def quote:Value→RV
 | .agg cs=>if cs.toList.all knownAtom then .agg (chain cs.toList) else .un
 | v=>atom v
def opd (P:Program) (nt:Nat):Operand→RO
 | .tmp t=>if t < nt then .t (pa 20 (t + 1)) else .c .un
 | .const v=>.c (quote v)
 | .global g=>if g < P.globals.size then .c (.p g 0) else .c .un
 | .func f=>if f < BND then .c (.fn f .nil) else .c .un
def badP:RP:=.ex 0 (.c .un)
def szOf (P:Program) (t:TypeId):Option Nat:=(P.info? t).map (·.size)
def aggOf (P:Program) (t:TypeId):Option Bool:=(P.underlying t).map fun d=>match d with | .struct _ | .array _ _=>true | _=>false
def zeroOf (P:Program) (t:TypeId):Option Value:=(P.info? t).bind (·.zero)
def places (P:Program) (t:TypeId) (ps:List (Nat × Operand)) (nt:Nat):Option (List (Nat × Nat × RO)):=
 match P.underlying t with
 | some (.struct fs)=>do
  let pl ← fs.toList.mapM (fun f=>(P.info? f.type).map fun i=>(f.offset,i.size))
  ps.mapM fun p=>do
   let q ← pl[p.1]?
   if 0 < q.2 then pure (q.1,q.2,opd P nt p.2) else none
 | some (.array _ e)=>do
  let i ← P.info? e
  ps.mapM fun p=>if 0 < i.size then pure (p.1 * i.size,i.size,opd P nt p.2) else none
 | _=>none
def known (P:Program) (f:Nat):Bool:=match P.funcs[f]? with
 | some fn=>fn.body.isSome && fn.name != "runtime.NumGoroutine" && Nat.blt f 16777216
 | none=>false
def optO (P:Program) (nt:Nat) (o:Option Operand):Option RO:=o.map (opd P nt)
def kindsF (P:Program):List Field→Nat→Option (List Nat)
 | [],_=>some []
 | f::l,i=>if f.offset=i∧f.name ≠ "_" then (match P.underlying f.type with
  | some .bool=>(kindsF P l (i + 1)).map (0::·)
  | some (.int _)=>(kindsF P l (i + 1)).map (1::·)
  | _=>none) else none
def compSe (P:Program) (nt:Nat) (neg:Bool) (op:BinOp) (t:TypeId) (fs:Array Field) (x y:Operand):RP:=
 match kindsF P fs.toList 0 with
 | some ks=>if P.stoodInHeld t=false∧P.eqGuardType P.depth t=false then .se ks neg (opd P nt x) (opd P nt y) else .bn op (opd P nt x) (opd P nt y)
 | none=>.bn op (opd P nt x) (opd P nt y)
def kindA (P:Program) (e:TypeId):Option Nat:=match P.underlying e with
 | some .bool=>some 0
 | some (.int _)=>some 1
 | _=>none
def compAe (P:Program) (nt:Nat) (neg:Bool) (op:BinOp) (t:TypeId) (len:Nat) (el:TypeId) (x y:Operand):RP:=
 match kindA P el with
 | some k=>if szOf P el=some 1∧P.eqGuardType P.depth t=false then .se (List.replicate len k) neg (opd P nt x) (opd P nt y) else .bn op (opd P nt x) (opd P nt y)
 | none=>.bn op (opd P nt x) (opd P nt y)
def ivAt (P:Program) (name:String) (t:Nat):Option IvE:=do
 let i ← P.info? t
 let m ← i.methods.find? (·.name == name)
 let (f,pr) ← m.func
 if pr=false∧known P f=true then
  match m.path.toList with
  | []=>match P.underlying t with
   | some (.pointer _)=>none
   | some _=>some (.e t f false false 0 0)
   | none=>none
  | [s]=>if s.deref then none else match P.underlying s.struct with
   | some (.struct fs)=>do
    let fd ← fs[s.index]?
    let sz ← szOf P fd.type
    let g ← aggOf P fd.type
    match P.underlying fd.type with
    | some (.pointer _)=>none
    | some _=>some (.e t f true g fd.offset sz)
    | none=>none
   | _=>none
  | _=>none
 else none
def ivTab (P:Program) (name:String):List IvE:=(List.range P.types.size).filterMap (ivAt P name)
def compCall (P:Program) (nt:Nat) (c:Call):Option RP:=
 let as:=c.args.toList.map (opd P nt)
 match c.callee with
 | .value (.func f)=>if known P f=true∧f < BND then some (.cl f as) else none
 | .value x=>some (.cf (opd P nt x) as)
 | .invoke x name=>some (.iv (ivTab P name) (opd P nt x) as)
 | .builtin b=>
  match b,c.args.toList,c.argTypes.toList with
  | .len,[x],[t]=>match P.underlying t with
   | some .string=>some (.ln true (opd P nt x))
   | some (.slice _)=>some (.ln false (opd P nt x))
   | some (.array n _)=>some (.mv (.c (.i .i64 n)))
   | _=>none
  | .cap,[x],[t]=>match P.underlying t with
   | some (.slice _)=>some (.cp (opd P nt x))
   | some (.array n _)=>some (.mv (.c (.i .i64 n)))
   | _=>none
  | .append,[x,y],[t,u]=>match P.underlying t,t == u with
   | some (.slice e),true=>do
    let i ← P.info? e
    let z ← i.zero
    if (0 < i.size∧i.size < 1048576)∧i.bytes≤65536∧z.cells.size=i.size then some (.ap i.size (opd P nt x) (opd P nt y)) else none
   | some (.slice e),false=>match P.underlying u with
    | some (.int _)=>do
     let i ← P.info? e
     let z ← i.zero
     if (0 < i.size∧i.size < 1048576)∧i.bytes≤65536∧z.cells.size=i.size∧z.cells.toList.all knownAtom=true then some (.az i.size (chain z.cells.toList) (opd P nt x) (opd P nt y)) else none
    | some .string | some (.slice _)=>do
     let i ← P.info? e
     let z ← i.zero
     if (0 < i.size∧i.size < 1048576)∧i.bytes≤65536∧z.cells.size=i.size then some (.ap i.size (opd P nt x) (opd P nt y)) else none
    | _=>none
   | _,_=>none
  | .copy,[x,y],[t,u]=>match P.underlying t,P.underlying u with
   | some (.slice e),some (.slice _)=>do
    let s ← szOf P e
    if 0 < s then some (.cy s (opd P nt x) (opd P nt y)) else none
   | _,_=>none
  | .clear,[x],[t]=>match P.underlying t with
   | some (.slice e)=>do
    let i ← P.info? e
    let z ← i.zero
    if 0 < i.size∧z.cells.size=i.size∧z.cells.toList.all knownAtom=true then some (.cr (chain z.cells.toList) (opd P nt x)) else none
   | _=>none
  | .min,[x,y],_=>some (.mm false (opd P nt x) (opd P nt y))
  | .max,[x,y],_=>some (.mm true (opd P nt x) (opd P nt y))
  | _,_,_=>none
def mvP (P:Program) (nt:Nat) (x:Operand):RP:=match opd P nt x with | .c .un=>.fg | y=>.mv y
def keySize:Operand→Bool | .const (.int _ _)=>true | _=>false
def kNum:IntKind→Nat | .i8=>3 | .i16=>4 | .i32=>5 | .i64=>6 | .u8=>7 | .u16=>8 | .u32=>9 | .u64=>10
def keyKinds (P:Program):List Field→Nat→Option (List Nat)
 | [],_=>some []
 | f::l,i=>if f.offset=i∧f.name ≠ "_" then (match P.underlying f.type with
  | some .bool=>(keyKinds P l (i + 1)).map (1::·)
  | some (.int k)=>(keyKinds P l (i + 1)).map (kNum k::·)
  | _=>none) else none
def codeK:List Nat→Nat | []=>12 | q::l=>(q + 1) + 16 * codeK l
def keyOf:TypeDesc→Option Nat | .bool=>some 1 | .string=>some 2 | .int k=>some (kNum k) | _=>none
def keyType (P:Program) (t:TypeId):Option Nat:=match P.underlying t with
 | some (.struct fs)=>if P.stoodInHeld t then none else (keyKinds P fs.toList 0).map fun ks=>11 + 16 * codeK ks
 | some (.pointer el)=>if szOf P el=some 0 || szOf P el=none then none else some 12
 | some d=>keyOf d
 | none=>none
def isNilC:Operand→Bool | .const (.pointer none)=>true | _=>false
def intTys (P:Program):List Nat:=(List.range P.types.size).filter fun t=>match P.underlying t,P.info? t with
 | some (.int _),some i=>i.comparable
 | _,_=>false
def isC:Operand→Bool | .const _=>true | _=>false
def compOp (P:Program) (nt:Nat) (o:Op):Option RP:=
 match o with
 | .move x | .assign x=>some (mvP P nt x)
 | .pick c a b=>some (.pick (opd P nt c) (opd P nt a) (opd P nt b))
 | .alloc e=>do
  let z ← zeroOf P e
  some (.al (chain z.cells.toList))
 | .box _ x=>some (.bx (opd P nt x))
 | .build t ps=>do
  let z ← zeroOf P t
  let l ← places P t ps.toList nt
  if z.cells.toList.all knownAtom then some (.bd (chain z.cells.toList) l) else none
 | .buildSlice t len ps=>match P.underlying t with
  | some (.slice e)=>do
   let s ← szOf P e
   let z ← zeroOf P e
   if 0 < s∧len * s≤65536∧z.cells.size=s∧z.cells.toList.all knownAtom=true then
    some (.bs (chain ((List.range (len * s)).map fun i=>z.cells[i % s]!)) len (ps.toList.map fun p=>(p.1 * s,s,opd P nt p.2)))
   else none
  | _=>none
 | .load t a=>do
  let s ← szOf P t
  let g ← aggOf P t
  some (.ld g s (opd P nt a))
 | .store t a v=>do
  let s ← szOf P t
  if 0 < s then some (.st s (opd P nt a) (opd P nt v)) else none
 | .nilCheck x=>some (.nc (opd P nt x))
 | .binOp op t x y _=>match op with
  | .eql=>match P.underlying t with
   | some .bool=>some (.bq false (opd P nt x) (opd P nt y))
   | some (.pointer el)=>if isNilC x || isNilC y || szOf P el=some 0 || szOf P el=none then some (.nq 0 false (opd P nt x) (opd P nt y)) else some (.pq false (opd P nt x) (opd P nt y))
   | some (.slice _)=>some (.nq 1 false (opd P nt x) (opd P nt y))
   | some (.func _ _ _)=>some (.nq 2 false (opd P nt x) (opd P nt y))
   | some (.interface _)=>if isC x || isC y then some (.nq 3 false (opd P nt x) (opd P nt y)) else some (.se (99::intTys P) false (opd P nt x) (opd P nt y))
   | some (.struct fs)=>some (compSe P nt false op t fs x y)
   | some (.array len el)=>some (compAe P nt false op t len el x y)
   | _=>some (.bn op (opd P nt x) (opd P nt y))
  | .neq=>match P.underlying t with
   | some .bool=>some (.bq true (opd P nt x) (opd P nt y))
   | some (.pointer el)=>if isNilC x || isNilC y || szOf P el=some 0 || szOf P el=none then some (.nq 0 true (opd P nt x) (opd P nt y)) else some (.pq true (opd P nt x) (opd P nt y))
   | some (.slice _)=>some (.nq 1 true (opd P nt x) (opd P nt y))
   | some (.func _ _ _)=>some (.nq 2 true (opd P nt x) (opd P nt y))
   | some (.interface _)=>if isC x || isC y then some (.nq 3 true (opd P nt x) (opd P nt y)) else some (.se (99::intTys P) true (opd P nt x) (opd P nt y))
   | some (.struct fs)=>some (compSe P nt true op t fs x y)
   | some (.array len el)=>some (compAe P nt true op t len el x y)
   | _=>some (.bn op (opd P nt x) (opd P nt y))
  | _=>some (.bn op (opd P nt x) (opd P nt y))
 | .unOp op _ x=>match op with
  | .neg=>some (.ng (opd P nt x))
  | .not=>some (.nt (opd P nt x))
  | _=>none
 | .convert s d x=>match P.underlying s,P.underlying d with
  | some _,some (.int k)=>some (.cv k (opd P nt x))
  | some (.slice e),some .string=>match P.underlying e with
   | some (.int .u8)=>some (.b2 false (opd P nt x))
   | _=>none
  | some .string,some (.slice e)=>match P.underlying e with
   | some (.int .u8)=>some (.b2 true (opd P nt x))
   | _=>none
  | _,_=>none
 | .makeFunc fn first captured=>match fn,first.toList with
  | .func f,[]=>if f < BND then some (.mf f (captured.toList.map (opd P nt))) else none
  | .func f,[x]=>if f < BND then some (.mf (BND + f) (opd P nt x::captured.toList.map (opd P nt))) else none
  | _,_=>none
 | .makeInterface t x=>match P.underlying t with
  | some (.interface _)=>none
  | some _=>some (.mf (33554432 + t) [.c .nil,opd P nt x])
  | none=>none
 | .typeAssert x _ t two=>match P.underlying t with
  | some (.interface _)=>none
  | some _=>do
   let z ← zeroOf P t
   some (.ta t (quote z) two (opd P nt x))
  | none=>none
 | .makeSlice t l c=>match P.underlying t with
  | some (.slice e)=>do
   let i ← P.info? e
   let z ← i.zero
   if 0 < i.size∧i.bytes≤65536∧z.cells.size=i.size∧z.cells.toList.all knownAtom=true then some (.ms (chain z.cells.toList) (opd P nt l) (opd P nt c)) else none
  | _=>none
 | .slice t x lo hi mx=>match P.underlying t with
  | some (.slice e)=>do
   let s ← szOf P e
   if 0 < s∧(mx.isSome→hi.isSome) then some (.sc s (opd P nt x) (optO P nt lo) (optO P nt hi) (optO P nt mx)) else none
  | some .string=>if mx.isNone then some (.ss (opd P nt x) (optO P nt lo) (optO P nt hi)) else none
  | some (.array n e)=>do
   let s ← szOf P e
   if 0 < s∧mx.isNone then some (.sa n s (opd P nt x) (optO P nt lo) (optO P nt hi)) else none
  | _=>none
 | .fieldAddr t x k=>match P.underlying t with
  | some (.struct fs)=>do
   let f ← fs[k]?
   let s ← szOf P f.type
   if 0 < s then some (.fa f.offset (opd P nt x)) else none
  | _=>none
 | .field t x k=>match P.underlying t with
  | some (.struct fs)=>do
   let f ← fs[k]?
   let s ← szOf P f.type
   let g ← aggOf P f.type
   some (.fd g f.offset s (opd P nt x))
  | _=>none
 | .indexAddr t x i=>match P.underlying t with
  | some (.slice e)=>do
   let s ← szOf P e
   if 0 < s then some (.ia s (opd P nt x) (opd P nt i)) else none
  | some (.array n e)=>do
   let s ← szOf P e
   if 0 < s then some (.ip n s (opd P nt x) (opd P nt i)) else none
  | _=>none
 | .index t x i=>match P.underlying t with
  | some (.array n e)=>do
   let s ← szOf P e
   let g ← aggOf P e
   if 0 < s then some (.ix g n s (opd P nt x) (opd P nt i)) else none
  | some .string=>some (.sx (opd P nt x) (opd P nt i))
  | _=>none
 | .extract x k=>some (.ex k (opd P nt x))
 | .makeMap t r=>match P.underlying t,r.all keySize with
  | some (.map _ _),true=>some .mk
  | _,_=>none
 | .insert t m k x | .mapUpdate t m k x=>match P.underlying t with
  | some (.map kt _)=>do
   let q ← keyType P kt
   some (.mi q (opd P nt m) (opd P nt k) (opd P nt x))
  | _=>none
 | .lookup t m k two=>match P.underlying t with
  | some (.map kt e)=>do
   let z ← zeroOf P e
   let q ← keyType P kt
   some (.ml q (quote z) two (opd P nt m) (opd P nt k))
  | _=>none
 | .call c=>compCall P nt c
 | _=>none
def compDst (nt:Nat) (d:Option Tmp):Option D:=match d with
 | none=>some .no
 | some t=>if t < nt then some (.d (pa 20 (t + 1))) else none
def compG (os:Array Oper) (nt:Nat) (g:Option (Nat × Bool)):Option G:=match g with
 | none=>some .no
 | some (j,w)=>match (os[j]?).bind (·.dst) with
  | some t=>if t < nt then some (.g (pa 20 (t + 1)) w) else none
  | none=>none
inductive Cl where | pure | load | alloc | eff
 deriving DecidableEq
def cls:RP→Cl
 | .ld ..=>.load
 | .al _ | .bx _ | .bs .. | .ms .. | .mk=>.alloc
 | .cl .. | .cf .. | .st .. | .ap .. | .cy .. | .cr .. | .mi .. | .ml .. | .az .. | .iv .. | .b2 .. | .pq ..=>.eff
 | _=>.pure
def within (a b:Nat):Bool:=a &&& b == a
def those (k:Cl):List Cl→Nat→Nat
 | [],_=>0
 | c::r,i=>(if c=k then 2 ^ i else 0) ||| those k r (i + 1)
def ahead (bf:List Nat) (e i:Nat):Nat:=(List.range bf.length).foldl (fun s j=>if e.testBit j && (bf.getD i 0).testBit j then s + 1 else s) 0
def maybe (bf:List Nat) (e i:Nat):Nat:=(List.range bf.length).foldl (fun s j=>if e.testBit j && !(bf.getD j 0).testBit i then s + 1 else s) 0
def kinds (bf:List Nat) (e a:Nat):List Cl→Nat→Option (List K3)
 | [],_=>some []
 | c::r,i=>
  let b:=bf.getD i 0
  let lo:=2 ^ i - 1
  match c with
  | .pure=>do pure (.nm::(← kinds bf e a r (i + 1)))
  | .alloc=>do pure (.nm::(← kinds bf e a r (i + 1)))
  | .load=>do
   let rest ← kinds bf e a r (i + 1)
   let p:=ahead bf e i
   let q:=maybe bf e i
   pure ((if p=q then (if within (a &&& lo) b then .nm else .lm) else .ck p q)::rest)
  | .eff=>if within (e &&& lo) b && within (a &&& lo) b then do pure (.ef::(← kinds bf e a r (i + 1))) else none
def compQ (P:Program) (nt:Nat) (os:Array Oper) (o:Oper) (k:K3):RQ:=
 match compDst nt o.dst,compG os nt o.guard with
 | some d,some g=>.q d g k ((compOp P nt o.op).getD badP)
 | _,_=>.q .no .no .nm badP
def compReg (P:Program) (nt:Nat) (os:Array Oper):List RQ:=os.toList.map fun o=>compQ P nt os o .nm
/-! what a drawn region is asked,of its operations as they will be run -/
def paN:Pa→Nat | .z=>1 | .o p=>2 * paN p | .i p=>2 * paN p + 1
def ro:RO→Nat | .t p=>2 ^ paN p | .c _=>0
def roL:List RO→Nat | []=>0 | x::r=>ro x ||| roL r
def roP:List (Nat × Nat × RO)→Nat | []=>0 | x::r=>ro x.2.2 ||| roP r
def roO:Option RO→Nat | none=>0 | some x=>ro x
def rdm:RP→Nat
 | .mv x=>ro x | .pick c a b=>ro c ||| ro a ||| ro b | .al _=>0 | .bx x=>ro x
 | .bd _ ps=>roP ps | .bs _ _ ps=>roP ps
 | .ld _ _ a=>ro a | .st _ a v=>ro a ||| ro v | .nc x=>ro x
 | .bn _ x y=>ro x ||| ro y | .bq _ x y=>ro x ||| ro y | .nq _ _ x y=>ro x ||| ro y
 | .ng x=>ro x | .nt x=>ro x | .cv _ x=>ro x | .mf _ cs=>roL cs
 | .ms _ l c=>ro l ||| ro c
 | .sc _ x lo hi mx=>ro x ||| roO lo ||| roO hi ||| roO mx | .ss x lo hi=>ro x ||| roO lo ||| roO hi | .sa _ _ x lo hi=>ro x ||| roO lo ||| roO hi
 | .fa _ x=>ro x | .fd _ _ _ x=>ro x | .ia _ x i=>ro x ||| ro i | .ip _ _ x i=>ro x ||| ro i | .ix _ _ _ x i=>ro x ||| ro i | .sx x i=>ro x ||| ro i
 | .ex _ x=>ro x | .cl _ as=>roL as | .cf x as=>ro x ||| roL as
 | .ln _ x=>ro x | .cp x=>ro x | .ap _ x y=>ro x ||| ro y | .cy _ x y=>ro x ||| ro y | .mm _ x y=>ro x ||| ro y
 | .cr _ x=>ro x | .se _ _ x y=>ro x ||| ro y
 | .az _ _ x y=>ro x ||| ro y
 | .b2 _ x=>ro x | .pq _ x y=>ro x ||| ro y | .ta _ _ _ x=>ro x | .iv _ x as=>ro x ||| roL as
 | .mk=>0 | .fg=>0 | .mi _ m k x=>ro m ||| ro k ||| ro x | .ml _ _ _ m k=>ro m ||| ro k
def gm:G→Nat | .no=>0 | .g p _=>2 ^ paN p
def dm:D→Nat | .no=>0 | .d p=>2 ^ paN p
structure It where
 ix:Nat
 bf:Nat
 rd:Nat
 wr:Nat
 c:Cl
 en:Nat
 p:Nat
 q:Nat
 nm:Bool
def isEf:RQ→Bool | .q _ _ .ef _=>true | _=>false
def itOf (ix bf en:Nat):RQ→It
 | .q d g k o=>{ ix,bf,rd:=rdm o ||| gm g,wr:=dm d,c:=cls o,en,p:=(match k with | .ck p _=>p | _=>en),q:=(match k with | .ck _ q=>q | _=>en),nm:=(match k with | .nm=>true | _=>false) }
def oneOk (en:Nat):RQ→Bool
 | .q _ _ k o=>match cls o,k with
  | .pure,.nm=>true
  | .alloc,.nm=>true
  | .eff,.ef=>true
  | .load,.nm=>true
  | .load,.lm=>true
  | .load,.ck p q=>Nat.ble p en && Nat.ble en q
  | _,_=>false
def pairOk (x y : It) : Bool :=
  y.bf.testBit x.ix || (Nat.beq (x.wr &&& (y.rd ||| y.wr)) 0 && Nat.beq (x.rd &&& y.wr) 0 &&
    (match x.c, y.c with
     | .eff, .eff => false
     | .alloc, .eff => false
     | .alloc, .load => !y.nm
     | .eff, .load => Nat.ble y.p x.en
     | .load, .eff => Nat.ble (y.en + 1) x.q
     | _, _ => true))
def items:List RQ→List Nat→Nat→Nat→List It
 | [],_,_,_=>[]
 | q::l,bfs,ix,en=>itOf ix (bfs.headD 0) en q::items l bfs.tail (ix + 1) (if isEf q then en + 1 else en)
def onesOk:List RQ→Nat→Bool
 | [],_=>true
 | q::l,en=>oneOk en q && onesOk l (if isEf q then en + 1 else en)
def pairsOk:List It→Bool
 | []=>true
 | x::r=>r.all (pairOk x) && pairsOk r
def backOk (os:List Oper) (i:Nat):Bool:=match os with
 | []=>true
 | o::r=>o.after.all (fun e=>!Region.binds .any e || Nat.ble (e.on + 1) i) && backOk r (i + 1)
def compDr0 (P:Program) (nt:Nat) (os:Array Oper):List RQ:=
 let cs:=os.toList.map fun o=>cls ((compOp P nt o.op).getD badP)
 let bf:=(Region.before os).toList
 match kinds bf (those .eff cs 0) (those .alloc cs 0) cs 0 with
 | some ks=>
  let l:=(os.toList.zip ks).map fun ok=>compQ P nt os ok.1 ok.2
  if l.length=os.size∧backOk os.toList 0=true∧onesOk l 0=true∧pairsOk (items l bf 0 0)=true∧P.follows .mixedOrders=true then l else [.q .no .no .nm badP]
 | none=>[.q .no .no .nm badP]
/-! a region in another order of its operations: those that make memory as late as may be -/
def readyIn (done:List Nat) (o:Oper):Bool:=o.after.all fun e=>!Region.binds .any e || done.contains e.on
def permGo (os:Array Oper) (al:Nat→Bool):Nat→List Nat→List Nat→List Nat
 | 0,_,done=>done.reverse
 | f + 1,todo,done=>match todo.find? (fun i=>!al i && ((os[i]?).map (readyIn done)).getD false) with
  | some i=>permGo os al f (todo.erase i) (i::done)
  | none=>match todo.find? (fun i=>((os[i]?).map (readyIn done)).getD false) with
   | some i=>permGo os al f (todo.erase i) (i::done)
   | none=>done.reverse
def renO (p:List Nat) (o:Oper):Oper:={ o with after:=o.after.map fun e=>{ e with on:=p.idxOf e.on },guard:=o.guard.map fun g=>(p.idxOf g.1,g.2) }
def permOs (os:Array Oper) (p:List Nat):Array Oper:=(p.map fun i=>renO p os[i]!).toArray
def permOk (n:Nat) (p:List Nat):Bool:=Nat.beq p.length n && (List.range n).all (fun i=>Nat.beq (p.getD (p.idxOf i) n) i) && (List.range n).all fun k=>Nat.beq (p.idxOf (p.getD k n)) k && Nat.ble (p.getD k n + 1) n
def permOf (P:Program) (nt:Nat) (os:Array Oper):List Nat:=
 let al:=os.toList.map fun o=>decide (cls ((compOp P nt o.op).getD badP)=.alloc)
 permGo os (fun i=>al.getD i false) os.size (List.range os.size) []
def isBadL:List RQ→Bool | [.q _ _ _ (.ex 0 (.c .un))]=>true | _=>false
def compDr (P:Program) (nt:Nat) (os:Array Oper):List RQ:=
 let l:=compDr0 P nt os
 if isBadL l then (let p:=permOf P nt os; if permOk os.size p then compDr0 P nt (permOs os p) else l) else l
def rngs:Code→List (Array Tmp × Code × Code)
 | .seq a b=>rngs a ++ rngs b
 | .cond _ a b=>rngs a ++ rngs b
 | .block _ a=>rngs a
 | .loop a=>rngs a
 | .scope a=>rngs a
 | .rangeFunc _ ps a b=>(ps,a,b)::(rngs a ++ rngs b)
 | _=>[]
def keyAt (f i:Nat):Nat:=f * 256 + i
def rqR:List RQ→Nat | []=>0 | .q _ g _ o::l=>rdm o ||| gm g ||| rqR l
def rqW:List RQ→Nat | []=>0 | .q d _ _ _::l=>dm d ||| rqW l
def svR:List Pa→Nat | []=>0 | p::l=>2 ^ paN p ||| svR l
def rcR:RC→Nat
 | .rg l=>rqR l | .dr l=>rqR l | .sq a b=>rcR a ||| rcR b | .cd c a b=>ro c ||| rcR a ||| rcR b | .bl _ a=>rcR a | .lp a=>rcR a | .rf g _ sv=>ro g ||| svR sv
 | _=>0
def rcW:RC→Nat
 | .rg l=>rqW l | .dr l=>rqW l | .sq a b=>rcW a ||| rcW b | .cd _ a b=>rcW a ||| rcW b | .bl _ a=>rcW a | .lp a=>rcW a
 | _=>0
def svOf (nt:Nat) (ps:List Pa) (a b:RC):List Pa:=
 ((List.range nt).filter fun i=>(rcR a ||| rcR b).testBit (i + 1) && !(rcW a ||| rcW b ||| svR ps).testBit (i + 1)).map fun i=>pa 20 (i + 1)
def slotsOf (ps:Array Tmp):List Pa:=ps.toList.map fun i=>pa 20 (i + 1)
def comp (P:Program) (nt f:Nat):Code→Nat→RC
 | .skip,_=>.sk
 | .region _ os d,_=>if d then .dr (compDr P nt os) else .rg (compReg P nt os)
 | .seq a b,i=>.sq (comp P nt f a i) (comp P nt f b (i + (rngs a).length))
 | .cond c a b,i=>.cd (opd P nt c) (comp P nt f a i) (comp P nt f b (i + (rngs a).length))
 | .block id a,i=>.bl id (comp P nt f a i)
 | .loop a,i=>.lp (comp P nt f a i)
 | .scope a,i=>comp P nt f a i
 | .rangeFunc g ps a b,i=>if ps.toList.all (fun t=>decide (t < nt))=false then .cd (.c .un) .sk .sk else .rf (opd P nt g) (keyAt f i) (svOf nt (slotsOf ps) (comp P nt f a (i + 1)) (comp P nt f b (i + 1 + (rngs a).length)))
 | .exit id,_=>.ex id
 | .ret,_=>.rt
 | .label _,_=>.sk
 | _,_=>.cd (.c .un) .sk .sk
def loopAt (P:Program) (k:Nat):Option (Nat × Nat × Array Tmp × Code × Code):=do
 let fn ← P.funcs[k / 256]?
 let c ← fn.body
 if (rngs c).length≤256 then do
  let (ps,a,b) ← (rngs c)[k % 256]?
  pure (k / 256,fn.ntmps,ps,a,b)
 else none
def compR (P:Program) (k:Nat):Option RF:=do
 let (f,nt,ps,a,b) ← loopAt P k
 let A:=comp P nt f a (k % 256 + 1)
 let B:=comp P nt f b (k % 256 + 1 + (rngs a).length)
 let sv:=svOf nt (slotsOf ps) A B
 if decide (nt < 1000000) && ps.toList.all (fun t=>decide (t < nt)) then some (.r k sv.length sv (slotsOf ps) A B) else none
def compRes (P:Program) (nt:Nat):ResultVar→Option RS
 | .tmp t=>if t < nt then some (.t (pa 20 (t + 1))) else none
 | .cell a t=>do
  let s ← szOf P t
  let g ← aggOf P t
  if a < nt then some (.c (pa 20 (a + 1)) g s) else none
def compF (P:Program) (f:Nat):Option RF:=
 if f < BND then do
  let fn ← P.funcs[f]?
  let c ← fn.body
  let rs ← fn.results.toList.mapM (compRes P fn.ntmps)
  if known P f && decide (fn.ntmps < 1000000) && decide ((rngs c).length≤256) then some (.f (fn.params.size + fn.nfree) (comp P fn.ntmps f c 0) rs) else none
 else compR P (f - BND)
end Go.Rn
