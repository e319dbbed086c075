/-
  One text of a symbolic evaluator over the model, shown sound once for every program: no statement is claimed here.
-/
import Derived.Test.YthcnhbclagegeaaGreatDoorRnP
import Derived.MapKept
import Derived.LaidEql
namespace Go.Rn
variable {ρ:Rho} {m m':Mp} {P:Program}
variable {g fl n n' nt lim:Nat} {h h':HT} {t:FT} {a:Act} {o:Oper} {w:World} {v:RV} {ys:Ys} {cl:Cl'}
section
variable {α:Type} {d x:α}
theorem Yed {v:RV} {k:Nat->α} (h:gM d v k=x) (hd:d≠x):∃ b,v=.mp b/\k b=x:=by
 cases v<;>first | exact absurd h hd | exact⟨_,rfl,h⟩
theorem Zfg {v:RB} {k:CT->α} (h:gMK d v k=x) (hd:d≠x):∃ c,v=.bk c Za2/\k c=x:=by
 cases v with
 | no=>exact absurd h hd
 | bk c z=>
  have h1:bf (Nat.beq z Za2) (k c) d=x:=h
  cases hz:Nat.beq z Za2 with
  | true=>
   rw[hz] at h1
   have:=Nat.eq_of_beq_eq_true hz
   subst this
   exact⟨c,rfl,h1⟩
  | false=>rw[hz] at h1;exact absurd h1 hd
end
theorem Zn1 {r:RV} (hk:Znp r=1):∃ b,r=.b b:=by
 cases r<;>first | exact⟨_,rfl⟩ | cases hk;done | (rename_i j z;exfalso;revert hk;cases j<;>intro hk<;>cases hk)
theorem Zu3 {r:RV} (hk:Znp r=2):∃ l,r=.s l:=by
 cases r<;>first | exact⟨_,rfl⟩ | cases hk;done | (rename_i j z;exfalso;revert hk;cases j<;>intro hk<;>cases hk)
theorem Zn0 {r:RV} {k:IntKind} (hk:Znp r=Yhr k):∃ z,r=.i k z:=by
 cases r<;>first | (exfalso;revert hk;cases k<;>intro hk<;>cases hk;done) | (rename_i j z;revert hk;cases k<;>cases j<;>intro hk<;>first | exact⟨_,rfl⟩ | cases hk)
theorem Zna {d:TypeDesc} {q:Nat} {r:RV} {u:Value} (hq:keyOf d=some q) (hk:Znp r=q) (hd:den ρ m r u):MapKept.IsKey d u:=by
 cases d<;>simp only[keyOf,Option.some.injEq,reduceCtorEq] at hq
 ·subst hq;obtain⟨b,rfl⟩:=Zn1 hk;cases hd;trivial
 ·subst hq;obtain⟨z,rfl⟩:=Zn0 hk;cases hd;rfl
 ·subst hq;obtain⟨l,rfl⟩:=Zu3 hk;obtain⟨rfl,_⟩:=hd;trivial
theorem Zx8 {a b:List Nat} (ha:∀ x∈a,x<256) (hb:∀ x∈b,x<256) (e:a.map UInt8.ofNat=b.map UInt8.ofNat):a=b:=by
 induction a generalizing b with
 | nil=>cases b with
  | nil=>rfl
  | cons y r=>cases e
 | cons x l ih=>cases b with
  | nil=>cases e
  | cons y r=>
   simp only[List.map_cons,List.cons.injEq] at e
   have hx:=ha x (.head _)
   have hy:=hb y (.head _)
   have h1:x=y:=by
    have:=congrArg UInt8.toNat e.1
    simpa [Nat.mod_eq_of_lt hx,Nat.mod_eq_of_lt hy] using this
   rw[h1,ih (fun z hz=>ha z (.tail _ hz)) (fun z hz=>hb z (.tail _ hz)) e.2]
theorem Zwd {d:TypeDesc} {q:Nat} {r r':RV} {u u':Value} (hq:keyOf d=some q) (hk:Znp r=q) (hk':Znp r'=q) (hd:den ρ m r u) (hd':den ρ m r' u'):Zye r r'=true↔u=u':=by
 cases d<;>simp only[keyOf,Option.some.injEq,reduceCtorEq] at hq
 ·subst hq
  obtain⟨b,rfl⟩:=Zn1 hk;obtain⟨b',rfl⟩:=Zn1 hk';cases hd;cases hd'
  cases b<;>cases b'<;>simp[Zye,gB,eqB,bf,Zh7]
 ·subst hq
  obtain⟨z,rfl⟩:=Zn0 hk;obtain⟨z',rfl⟩:=Zn0 hk';cases hd;cases hd'
  show eqI z z'=true↔_
  rw[Zj7];simp
 ·subst hq
  obtain⟨l,rfl⟩:=Zu3 hk;obtain⟨l',rfl⟩:=Zu3 hk';obtain⟨rfl,h1⟩:=hd;obtain⟨rfl,h2⟩:=hd'
  show eqL l l'=true↔_
  rw[Zu9]
  constructor
  ·intro h;have:l=l':=by simpa using h
   rw[this]
  ·intro h
   have e:l.map UInt8.ofNat=l'.map UInt8.ofNat:=by simpa using h
   simp[Zx8 h1 h2 e]
/-! keys that are structs -/
theorem Zmp (r:RV):Znp r<=10:=by
 cases r with
 | i k z=>show 3+kN k<=10;cases k<;>decide
 | b x=>show 1<=10;omega
 | s l=>show 2<=10;omega
 | _=>exact Nat.zero_le _
theorem Zwb (c:RV):kOf (.agg c)=11+16*Znu c:=rfl
theorem Zwa (b o:Nat):kOf (.p b o)=12:=rfl
theorem Ydj:kOf .np=12:=rfl
def Yr4 (r:RV):Prop:=(∀ c,r≠.agg c)/\r≠.np/\∀ b o,r≠.p b o
theorem Zkl {r:RV} {q:Nat} (hk:kOf r=q) (hq:q<=10):Znp r=q/\Yr4 r:=by
 cases r with
 | agg c=>rw[Zwb] at hk;omega
 | np=>rw[Ydj] at hk;omega
 | p b o=>rw[Zwa] at hk;omega
 | _=>exact⟨hk,(fun _=>by simp),(by simp),(fun _ _=>by simp)⟩
theorem Zxs {r:RV} {q:Nat} (hk:kOf r=q) (hq:12<q):∃ c,r=.agg c/\q=11+16*Znu c:=by
 have key:∀ r,kOf r=q->kOf r=Znp r->False:=fun r h1 h2=>by have:=Zmp r;omega
 cases r with
 | agg c=>exact⟨_,rfl,hk.symm⟩
 | np=>rw[Ydj] at hk;omega
 | p b o=>rw[Zwa] at hk;omega
 | _=>exact(key _ hk rfl).elim
theorem Zh0 {r:RV} (hk:kOf r=12):r=.np∨∃ b o,r=.p b o:=by
 have key:∀ r,kOf r=12->kOf r=Znp r->False:=fun r h1 h2=>by have:=Zmp r;omega
 cases r with
 | agg c=>rw[Zwb] at hk;omega
 | np=>exact .inl rfl
 | p b o=>exact .inr ⟨b,o,rfl⟩
 | _=>exact(key _ hk rfl).elim
theorem Ybz:∀ ks:List Nat,1<=Zgn ks
 | []=>by decide
 | q::ks=>by show 1<=(q+1)+16*Zgn ks;omega
theorem Zjn {d:TypeDesc} {q:Nat} (h:keyOf d=some q):1<=q/\q<=10:=by
 cases d<;>simp only[keyOf,Option.some.injEq,reduceCtorEq] at h
 ·omega
 ·rename_i k;cases k<;>subst h<;>decide
 ·omega
inductive Cells (ρ:Rho) (m:Mp):RV->List Nat->List Value->Prop
 | nil:Cells ρ m .nil [] []
 | cons {x r:RV} {q:Nat} {ks:List Nat} {u:Value} {us:List Value}:Znp x=q->den ρ m x u->Cells ρ m r ks us->Cells ρ m (.cons x r) (q::ks) (u::us)
theorem Zsn:∀ (ks:List Nat) (c:RV) (us:List Value),(∀ q∈ks,1<=q/\q<=10)->Znu c=Zgn ks->Zbg ρ m c us->Cells ρ m c ks us
 | [],c,us,_,h,hd=>by
  have h:Znu c=12:=h
  cases c with
  | nil=>rw[denC_nil.1 hd];exact .nil
  | cons x r=>
   have h2:(Znp x+1)+16*Znu r=12:=h
   have:=Zmp x
   omega
  | _=>cases h
 | q::ks,c,us,hq,h,hd=>by
  have h:Znu c=(q+1)+16*Zgn ks:=h
  obtain⟨q1,q2⟩:=hq q (.head _)
  cases c with
  | nil=>
   have h2:12=(q+1)+16*Zgn ks:=h
   omega
  | cons x r=>
   have h2:(Znp x+1)+16*Znu r=(q+1)+16*Zgn ks:=h
   have:=Zmp x
   obtain⟨u,us',rfl,h3,h4⟩:=denC_cons.1 hd
   exact .cons (by omega) h3 (Zsn ks r us' (fun z hz=>hq z (.tail _ hz)) (by omega) h4)
  | _=>
   exfalso
   have h2:0=(q+1)+16*Zgn ks:=h
   omega
def Kd1 (q:Nat):Prop:=q=1∨∃ k:IntKind,q=Yhr k
theorem Ze4:∀ {l:List Field} {i:Nat} {ks:List Nat},Zcr P l i=some ks->Zet P l i=some (ks.map fun q=>if q=1 then 0 else 1)/\∀ q∈ks,Kd1 q
 | [],i,ks,h=>by cases h;exact⟨rfl,fun _ h=>by cases h⟩
 | f::l,i,ks,h=>by
  unfold Zcr at h
  split at h
  case isFalse=>cases h
  rename_i hf
  split at h
  ·rename_i hu
   obtain⟨ks',h1,rfl⟩:=Option.map_eq_some_iff.1 h
   obtain⟨h2,h3⟩:=Ze4 h1
   refine⟨?_,fun q hq=>?_⟩
   ·unfold Zet
    rw[if_pos hf,hu]
    simp[h2]
   ·rcases List.mem_cons.1 hq with rfl | hq
    ·exact .inl rfl
    ·exact h3 q hq
  ·rename_i k hu
   obtain⟨ks',h1,rfl⟩:=Option.map_eq_some_iff.1 h
   obtain⟨h2,h3⟩:=Ze4 h1
   refine⟨?_,fun q hq=>?_⟩
   ·unfold Zet
    rw[if_pos hf,hu]
    have:Yhr k≠1:=by cases k<;>decide
    simp[h2,this]
   ·rcases List.mem_cons.1 hq with rfl | hq
    ·exact .inr ⟨k,rfl⟩
    ·exact h3 q hq
  ·cases h
theorem Kd1.rng {q:Nat} (h:Kd1 q):1<=q/\q<=10:=by
 rcases h with rfl | ⟨k,rfl⟩
 ·decide
 ·cases k<;>decide
theorem Zqr {q:Nat} (hq:Kd1 q) {a b:RV} (ha:Znp a=q) (hb:Znp b=q):Zj8 ys (if q=1 then 0 else 1) a b=.b (Zye a b):=by
 rcases hq with rfl | ⟨k,rfl⟩
 ·obtain⟨x,rfl⟩:=Zn1 ha
  obtain⟨y,rfl⟩:=Zn1 hb
  show mkB (eqB x y)=.b (eqB x y)
  rw[Zcg]
 ·have hk:Yhr k≠1:=by cases k<;>decide
  obtain⟨x,rfl⟩:=Zn0 ha
  obtain⟨y,rfl⟩:=Zn0 hb
  rw[if_neg hk]
  have e:Zj8 ys 1 (.i k x) (.i k y)=Ycg ys .eql (.i k x) (.i k y):=rfl
  rw[e]
  show Zy2 .eql k k x y=.b (eqI x y)
  have e2:Zy2 .eql k k x y=bf (eqK k k) (mkB (eqI x y)) .un:=rfl
  rw[e2,show eqK k k=true from by cases k<;>rfl,Zcg]
  rfl
theorem Zlt:∀ {ks:List Nat} {c d:RV} {us vs:List Value},(∀ q∈ks,Kd1 q)->Cells ρ m c ks us->Cells ρ m d ks vs->Zqv ys (ks.map fun q=>if q=1 then 0 else 1) c d=.b (Zyd c d)
 | [],_,_,_,_,_,.nil,.nil=>rfl
 | q::ks,_,_,_,_,hq,.cons (x:=x) (r:=r) h1 h2 h3,.cons (x:=y) (r:=s) h4 h5 h6=>by
  have e1:Zqv ys ((q::ks).map fun q=>if q=1 then 0 else 1) (.cons x r) (.cons y s)=gB RV.un (Zj8 ys (if q=1 then 0 else 1) x y) fun z=>bf z (Zqv ys (ks.map fun q=>if q=1 then 0 else 1) r s) (.b false):=rfl
  have e2:Zyd (.cons x r) (.cons y s)=bf (Zye x y) (Zyd r s) false:=rfl
  rw[e1,e2,Zqr (hq q (.head _)) h1 h4]
  show bf (Zye x y) (Zqv ys (ks.map fun q=>if q=1 then 0 else 1) r s) (.b false)=_
  rw[Zlt (fun z hz=>hq z (.tail _ hz)) h3 h6]
  cases Zye x y<;>rfl
theorem Kd1.keyOf {q:Nat} (h:Kd1 q):∃ d,Go.Rn.keyOf d=some q:=by
 rcases h with rfl | ⟨k,rfl⟩
 ·exact⟨.bool,rfl⟩
 ·exact⟨.int k,rfl⟩
theorem Zwc:∀ {ks:List Nat} {c d:RV} {us vs:List Value},(∀ q∈ks,Kd1 q)->Cells ρ m c ks us->Cells ρ m d ks vs->(Zyd c d=true↔us=vs)
 | [],_,_,_,_,_,.nil,.nil=>⟨fun _=>rfl,fun _=>rfl⟩
 | q::ks,_,_,_,_,hq,.cons (x:=x) (r:=r) h1 h2 h3,.cons (x:=y) (r:=s) h4 h5 h6=>by
  have e2:Zyd (.cons x r) (.cons y s)=bf (Zye x y) (Zyd r s) false:=rfl
  obtain⟨d,hd⟩:=(hq q (.head _)).keyOf
  have i1:=Zwd hd h1 h4 h2 h5
  have i2:=Zwc (fun z hz=>hq z (.tail _ hz)) h3 h6
  rw[e2,Zgq]
  constructor
  ·intro h
   split at h
   ·rename_i h7;rw[i1.1 h7,i2.1 h]
   ·cases h
  ·intro h
   simp only[List.cons.injEq] at h
   rw[if_pos (i1.2 h.1)]
   exact i2.2 h.2
theorem Zf5 {kt:TypeId} {q:Nat} (h:Zel P kt=some q):(∃ d,P.underlying kt=some d/\keyOf d=some q) ∨
  (∃ fs ks,P.underlying kt=some (.struct fs)/\Zcr P fs.toList 0=some ks/\P.stoodInHeld kt=false/\q=11+16*Zgn ks)∨∃ el sz,P.underlying kt=some (.pointer el)/\Zed P el=some sz/\sz≠0/\q=12:=by
 unfold Zel at h
 split at h
 ·rename_i fs hu
  split at h
  ·cases h
  ·rename_i hs
   obtain⟨ks,h1,rfl⟩:=Option.map_eq_some_iff.1 h
   exact .inr (.inl ⟨fs,ks,hu,h1,by simpa using hs,rfl⟩)
 ·rename_i el hu
  split at h
  ·cases h
  ·rename_i hs
   cases h
   cases hz:Zed P el with
   | none=>rw[hz] at hs;simp at hs
   | some sz=>rw[hz] at hs;exact .inr (.inr ⟨el,sz,hu,hz,by simpa using hs,rfl⟩)
 ·rename_i d _ _ hu;exact .inl ⟨d,hu,h⟩
 ·cases h
theorem Zmo {d:TypeDesc} {q:Nat} {r:RV} {u:Value} (hq:keyOf d=some q) (hk:kOf r=q) (hd:den ρ m r u):MapKept.IsKey d u:=Zna hq (Zkl hk (Zjn hq).2).1 hd
theorem Yk4 {d:TypeDesc} {q:Nat} {r r':RV} {u u':Value} (hq:keyOf d=some q) (hk:kOf r=q) (hk':kOf r'=q) (hd:den ρ m r u) (hd':den ρ m r' u'):kEq r r'=true↔u=u':=by
 obtain⟨h1,h2⟩:=Zkl hk (Zjn hq).2
 obtain⟨h3,_⟩:=Zkl hk' (Zjn hq).2
 have e:kEq r r'=Zye r r':=by
  obtain⟨h4,h5,h6⟩:=h2
  cases r<;>first | rfl | exact absurd rfl (h4 _) | exact absurd rfl h5 | exact absurd rfl (h6 _ _)
 rw[e]
 exact Zwd hq h1 h3 hd hd'
theorem Zr5 {d:TypeDesc} {q:Nat} {r:RV} {u:Value} {c:CT} {es:List MapEntry} (hq:keyOf d=some q) (hk:kOf r=q) (hd:den ρ m r u)
  (hes:∀ i e,es[i]?=some e->den ρ m (cg c (1+2*i)) e.key):∀ (s i:Nat) (x:Option Nat),i+s=es.length->Zjv q c r s i=some x ->
  (x=none/\Instr.findNow d u (es.drop i) i=some none)∨∃ j e,x=some j/\es[j]?=some e/\e.key=u/\Instr.findNow d u (es.drop i) i=some (some (j,e.val))
 | 0,i,x,hl,h=>by
  have h':some none=some x:=h
  cases h'
  rw[List.drop_eq_nil_of_le (by omega)]
  exact .inl ⟨rfl,rfl⟩
 | s+1,i,x,hl,h=>by
  have hlt:i<es.length:=by omega
  have he:es[i]?=some es[i]:=List.getElem?_eq_getElem hlt
  have h':bf (Nat.beq (kOf (cg c (1+2*i))) q) (bf (kEq r (cg c (1+2*i))) (some (some i)) (Zjv q c r s (i+1))) none=some x:=h
  rw[Zgq,Zgq] at h'
  split at h'
  ·rename_i h1
   have h1:=Nat.eq_of_beq_eq_true h1
   have hde:=hes i _ he
   have hiff:=Yk4 hq hk h1 hd hde
   obtain⟨b,hb,hbi⟩:=MapKept.sameNow_of_keys (Zmo hq hk hd) (Zmo hq h1 hde)
   rw[List.drop_eq_getElem_cons hlt]
   split at h'
   ·rename_i h2
    cases h'
    have:u=es[i].key:=hiff.1 h2
    have hbt:b=true:=hbi.2 this
    subst hbt
    exact .inr ⟨i,_,rfl,he,this.symm,by simp[Instr.findNow,hb]⟩
   ·rename_i h2
    have hbf:b=false:=by
     cases b with
     | false=>rfl
     | true=>exact absurd (hiff.2 (hbi.1 rfl)) h2
    subst hbf
    rcases Zr5 hq hk hd hes s (i+1) x (by omega) h' with⟨h3,h4⟩ | ⟨j,e,h3,h4,h5,h6⟩
    ·exact .inl ⟨h3,by simp[Instr.findNow,hb,h4]⟩
    ·exact .inr ⟨j,e,h3,h4,h5,by simp[Instr.findNow,hb,h6]⟩
  ·cases h'
theorem Zch (c:CT) (x:RV) (k:Nat) (hk:k<8388608):cg (cst c x k) k=x:=by
 unfold cg cst
 exact Zip _ _ _ _ (Nat.succ_le_succ (Nat.zero_le k)) (Nat.lt_trans (Nat.succ_lt_succ hk) (by decide))
theorem Zbq (c:CT) (x:RV) {k j:Nat} (h:j≠k):cg (cst c x k) j=cg c j:=by
 rcases Zn5 c x k j with⟨h1,_⟩ | ⟨_,h1⟩
 ·exact absurd h1 h
 ·exact h1
theorem Zf1 {fs:Array Field} {ks:List Nat} (h1:Zcr P fs.toList 0=some ks) {r:RV} {u:Value} (hk:kOf r=11+16*Zgn ks) (hd:den ρ m r u):∃ c us,r=.agg c/\u=.agg us.toArray/\Zbg ρ m c us/\Cells ρ m c ks us:=by
 have:=Ybz ks
 obtain⟨c,rfl,h2⟩:=Zxs hk (by omega)
 obtain⟨us,h3,_,rfl⟩:=hd
 exact⟨c,us,rfl,rfl,h3,Zsn ks c us (fun q hq=>((Ze4 h1).2 q hq).rng) (by omega) h3⟩
theorem Zox {n:Nat} {b:Bool} (w:World) {xs:Array Value}:∀ {l:List Field} {i:Nat} {ks:List Nat} {c:RV} {us:List Value},Zcr P l i=some ks->Cells ρ m c ks us->(∀ (j:Nat) (u:Value),us[j]?=some u->xs[i+j]?=some u) ->
  ((forIn l () fun f _=>do
    if f.name ≠ "_" then Instr.checkKey b (n + 1) f.type (<- part f.type xs f.offset)
    pure (ForInStep.yield ())):Sem Unit).run P w=.ok () w
 | [],i,ks,c,us,_,_,_=>by simp
 | f::l,i,ks,c,us,hk,hc,hx=>by
  unfold Zcr at hk
  split at hk
  case isFalse=>cases hk
  rename_i hf
  obtain⟨ho,hn⟩:=hf
  have key:∃ q ks' d,ks=q::ks'/\Zcr P l (i+1)=some ks'/\Zer P f.type=some false/\P.underlying f.type=some d/\keyOf d=some q:=by
   split at hk
   ·rename_i hu
    obtain⟨ks',h1,rfl⟩:=Option.map_eq_some_iff.1 hk
    exact⟨_,_,_,rfl,h1,by unfold Zer;rw[hu];rfl,hu,rfl⟩
   ·rename_i j hu
    obtain⟨ks',h1,rfl⟩:=Option.map_eq_some_iff.1 hk
    exact⟨_,_,_,rfl,h1,by unfold Zer;rw[hu];rfl,hu,rfl⟩
   ·cases hk
  obtain⟨q,ks',d,rfl,hk',hag,hu,hq⟩:=key
  cases hc with
  | cons h1 h2 h3=>
   rename_i x r u us'
   have hx0:=hx 0 u rfl
   rw[Nat.add_zero] at hx0
   have px:(part f.type xs f.offset).run P w=.ok u w:=by simp[part,Zb8 hag,ho,hx0]
   have hck:(Instr.checkKey b (n+1) f.type u).run P w=.ok () w:=MapKept.run_checkKey hu (Zna hq h1 h2) b n
   have ih:=Zox (n:=n) (b:=b) w hk' h3 (fun j u hj=>by have:=hx (j+1) u (by simpa using hj);rwa [show i+(j+1)=i+1+j by omega] at this)
   rw[List.forIn_cons]
   simp[hn,px,hck]
   simpa using ih
theorem Zme {r:RV} {u:Value} (hk:kOf r=12) (hd:den ρ m r u):∃ a,u=.pointer a:=by
 rcases Zh0 hk with rfl | ⟨b,o,rfl⟩
 ·exact⟨_,hd⟩
 ·obtain⟨_,_,_,_,rfl⟩:=hd;exact⟨_,rfl⟩
theorem Zsl {kt:TypeId} {q:Nat} {r:RV} {u:Value} (hq:Zel P kt=some q) (hk:kOf r=q) (hd:den ρ m r u) (b:Bool) (w:World):(Instr.checkKey b 10000 kt u).run P w=.ok () w:=by
 rcases Zf5 hq with⟨d,h1,h2⟩ | ⟨fs,ks,h1,h2,h3,rfl⟩ | ⟨el,sz,h1,_,_,rfl⟩
 rotate_left 2
 ·obtain⟨a,rfl⟩:=Zme hk hd
  unfold Instr.checkKey
  simp[run_underlying h1]
 ·exact MapKept.run_checkKey h1 (Zmo h2 hk hd) b 9999
 ·obtain⟨c,us,rfl,rfl,h4,h5⟩:=Zf1 h2 hk hd
  have:=Zox (n:=9998) (b:=b) w (xs:=us.toArray) h2 h5 (fun j u hj=>by simpa using hj)
  unfold Instr.checkKey
  simp[run_underlying h1]
  rw[<- Array.forIn_toList]
  simpa using this
theorem Zgh:∀ {ks:List Nat} {c:RV} {us:List Value},(∀ q∈ks,Kd1 q)->Cells ρ m c ks us->∀ n,((us.zip us).all fun (x,y)=>Instr.sameBits n x y)=true
 | [],_,_,_,.nil,_=>rfl
 | q::ks,_,_,hq,.cons (u:=u) h1 h2 h3,n=>by
  have hs:Instr.sameBits n u u=true:=by
   obtain⟨d,hd⟩:=(hq q (.head _)).keyOf
   have hi:=Zna hd h1 h2
   cases d<;>cases u<;>simp_all[MapKept.IsKey]<;>(unfold Instr.sameBits;simp[MapKept.bytes_beq])
  simp only[List.zip_cons_cons,List.all_cons,hs,Bool.true_and]
  exact Zgh (fun z hz=>hq z (.tail _ hz)) h3 n
theorem Yev {kt:TypeId} {q:Nat} {r:RV} {u:Value} (hq:Zel P kt=some q) (hk:kOf r=q) (hd:den ρ m r u) (w:World):(Instr.keyThatStays u u).run P w=.ok u w:=by
 rcases Zf5 hq with⟨d,h1,h2⟩ | ⟨fs,ks,h1,h2,h3,rfl⟩ | ⟨el,sz,h1,_,_,rfl⟩
 rotate_left 2
 ·obtain⟨a,rfl⟩:=Zme hk hd
  have h7:Instr.sameBits 10000 (.pointer a) (.pointer a)=true:=by
   rw[Instr.sameBits];simp
  simp[Instr.keyThatStays,h7]
 ·exact MapKept.run_keyThatStays (Zmo h2 hk hd)
 ·obtain⟨c,us,rfl,rfl,h4,h5⟩:=Zf1 h2 hk hd
  have h6:=Zgh (Ze4 h2).2 h5 9999
  have h7:Instr.sameBits 10000 (.agg us.toArray) (.agg us.toArray)=true:=by
   rw[Instr.sameBits]
   simpa using h6
  simp[Instr.keyThatStays,h7]
theorem Ydi {kt:TypeId} {q:Nat} {r:RV} (hq:Zel P kt=some q) (h:kOf r=q):r≠.un:=by
 intro e
 subst e
 have h':0=q:=h
 rcases Zf5 hq with⟨d,h1,h2⟩ | ⟨fs,ks,h1,h2,h3,rfl⟩ | ⟨el,sz,h1,_,_,rfl⟩
 ·have:=(Zjn h2).1;omega
 ·omega
 ·omega
theorem Ydx {kt:TypeId} {fs:Array Field} {ks:List Nat} (hu:P.underlying kt=some (.struct fs)) (hs:P.stoodInHeld kt=false) (h1:Zcr P fs.toList 0=some ks) {r:RV} {u:Value} {c:CT} {es:List MapEntry} (hk:kOf r=11+16*Zgn ks) (hd:den ρ m r u) (w:World)
  (hes:∀ i e,es[i]?=some e->den ρ m (cg c (1+2*i)) e.key):∀ (s i:Nat) (x:Option Nat),i+s=es.length->Zjv (11+16*Zgn ks) c r s i=some x ->
  (x=none/\(Instr.findAsking kt u (es.drop i) i).run P w=.ok none w)∨∃ j e,x=some j/\es[j]?=some e/\e.key=u/\(Instr.findAsking kt u (es.drop i) i).run P w=.ok (some (j,e.val)) w
 | 0,i,x,hl,h=>by
  have h':some none=some x:=h
  cases h'
  rw[List.drop_eq_nil_of_le (by omega)]
  exact .inl ⟨rfl,rfl⟩
 | s+1,i,x,hl,h=>by
  have hlt:i<es.length:=by omega
  have he:es[i]?=some es[i]:=List.getElem?_eq_getElem hlt
  have h':bf (Nat.beq (kOf (cg c (1+2*i))) (11+16*Zgn ks)) (bf (kEq r (cg c (1+2*i))) (some (some i)) (Zjv (11+16*Zgn ks) c r s (i+1))) none=some x:=h
  rw[Zgq,Zgq] at h'
  split at h'
  ·rename_i h2
   have h2:=Nat.eq_of_beq_eq_true h2
   have hde:=hes i _ he
   obtain⟨c1,us,rfl,rfl,g1,g2⟩:=Zf1 h1 hk hd
   obtain⟨c2,vs,hc2,hv2,g3,g4⟩:=Zf1 h1 h2 hde
   rw[hc2] at h'
   have e1:kEq (.agg c1) (.agg c2)=Zyd c1 c2:=rfl
   rw[e1] at h'
   have hiff:=Zwc (Ze4 h1).2 g2 g4
   have heq:(Op.equal kt (.agg us.toArray) es[i].key).run P w=.ok (Zyd c1 c2) w:=by
    rw[hv2]
    exact Zwm (ys:=fun _ _ _=>none) (ρ:=ρ) (m:=m) (fun _ _ _ _ h=>by cases h) hu hs (Ze4 h1).1 g1 g3 (Zlt (Ze4 h1).2 g2 g4) w
   rw[List.drop_eq_getElem_cons hlt]
   split at h'
   ·rename_i h3
    cases h'
    have:us=vs:=hiff.1 h3
    exact .inr ⟨i,_,rfl,he,by rw[hv2,this],by simp[Instr.findAsking,heq,h3]⟩
   ·rename_i h3
    have h3:Zyd c1 c2=false:=by simpa using h3
    rcases Ydx hu hs h1 hk hd w hes s (i+1) x (by omega) h' with⟨h4,h5⟩ | ⟨j,e,h4,h5,h6,h7⟩
    ·exact .inl ⟨h4,by simp[Instr.findAsking,heq,h3,h5]⟩
    ·exact .inr ⟨j,e,h4,h5,h6,by simp[Instr.findAsking,heq,h3,h7]⟩
  ·cases h'
theorem Zss {v:RV} (ha:Zey fl h v=true) {b o:Nat} (hv:v=.p b o):fl<=b/\∃ c z,hg h b=.bk c z/\z≠Za2:=by
 subst hv
 have ha:bf (Nat.ble fl b) (Yvi (hg h b)) false=true:=ha
 obtain⟨h1,h2⟩:=Zad ha (by simp)
 refine⟨Zam h1,?_⟩
 cases hb:hg h b with
 | no=>rw[hb] at h2;cases h2
 | bk c z=>
  rw[hb] at h2
  have h2:Zh7 (Nat.beq z Za2)=true:=h2
  refine⟨c,z,rfl,fun e=>?_⟩
  rw[e,show Nat.beq Za2 Za2=true from Nat.beq_refl _] at h2
  cases h2
theorem Yc6 (s:Sim P ρ m g h w) (hgf:g<=fl) {kt el:TypeId} {sz:Nat} (hu:P.underlying kt=some (.pointer el)) (hsz:Zed P el=some sz) (h0:sz≠0) {r r':RV} {u u':Value} (hk:kOf r=12) (hk':kOf r'=12) (ha:Zey fl h r=true) (ha':Zey fl h r'=true)
  (hd:den ρ m r u) (hd':den ρ m r' u'):(kEq r r'=true↔u=u')/\∀ d,(Op.equalIn (d+1) kt u u').run P w=.ok (kEq r r') w:=by
 rcases Zh0 hk with rfl | ⟨b,o,rfl⟩
 ·have hd:u=.pointer none:=hd
  subst hd
  rcases Zh0 hk' with rfl | ⟨b',o',rfl⟩
  ·have hd':u'=.pointer none:=hd'
   subst hd'
   refine⟨⟨fun _=>rfl,fun _=>rfl⟩,fun d=>?_⟩
   simp[Op.equalIn,run_underlying hu]
   rfl
  ·obtain⟨B',O',Z',_,rfl⟩:=hd'
   refine⟨⟨(fun e=>by cases e),(fun e=>by simp at e)⟩,fun d=>?_⟩
   simp[Op.equalIn,run_underlying hu]
   rfl
 ·obtain⟨B,O,Z,hm,rfl⟩:=hd
  rcases Zh0 hk' with rfl | ⟨b',o',rfl⟩
  ·have hd':u'=.pointer none:=hd'
   subst hd'
   refine⟨⟨(fun e=>by cases e),(fun e=>by simp at e)⟩,fun d=>?_⟩
   simp[Op.equalIn,run_underlying hu]
   rfl
  ·obtain⟨B',O',Z',hm',rfl⟩:=hd'
   obtain⟨f1,c1,z1,g1,n1⟩:=Zss ha rfl
   obtain⟨f2,c2,z2,g2,n2⟩:=Zss ha' rfl
   obtain⟨B1,O1,Z1,C1,e1,fr1,k1,k2,_,k3,_,_⟩:=s.cells b c1 z1 g1 n1
   obtain⟨B2,O2,Z2,C2,e2,fr2,l1,l2,_,l3,_,_⟩:=s.cells b' c2 z2 g2 n2
   rw[hm] at k1;cases k1
   rw[hm'] at l1;cases l1
   obtain rfl:=k3 (Nat.le_trans hgf f1)
   obtain rfl:=l3 (Nat.le_trans hgf f2)
   have e0:kEq (.p b o) (.p b' o')=bf (Nat.beq b b') (Nat.beq o o') false:=rfl
   have hiff:kEq (.p b o) (.p b' o')=true↔(⟨B,O+o,none⟩:Addr)=⟨B',O'+o',none⟩:=by
    rw[e0]
    constructor
    ·intro e
     obtain⟨q1,q2⟩:=Zad e (by simp)
     obtain rfl:=Zak q1
     obtain rfl:=Zak q2
     rw[hm] at hm';cases hm';rfl
    ·intro e
     simp only[Addr.mk.injEq,and_true] at e
     obtain⟨rfl,e2⟩:=e
     have:=s.inj b b' c1 z1 c2 z2 B O Z O' Z' g1 g2 hm hm'
     subst this
     rw[hm] at hm';cases hm'
     have:o=o':=by omega
     subst this
     rw[show Nat.beq b b=true from Nat.beq_refl _]
     exact Nat.beq_refl _
   refine⟨⟨fun e=>by rw[hiff.1 e],fun e=>hiff.2 (by simpa using e)⟩,fun d=>?_⟩
   have hs2:=Za9 hsz w
   by_cases hq:(⟨B,O+o,none⟩:Addr)=⟨B',O'+o',none⟩
   ·rw[hiff.2 hq,hq]
    simp[Op.equalIn,run_underlying hu,hs2,run_sameAddr_same]
   ·have hf:kEq (.p b o) (.p b' o')=false:=by
     cases hx:kEq (.p b o) (.p b' o') with
     | false=>rfl
     | true=>exact absurd (hiff.1 hx) hq
    rw[hf]
    have:=run_sameAddr_other (P:=P) (w:=w) hq k2 l2
    simp[Op.equalIn,run_underlying hu,hs2,h0,this]
theorem Yk0 {key:RV} {cs:CT} {sz:Nat} (h1:mAl fl h key cs sz=true):Zey fl h key=true/\∀ i,i<sz->Zey fl h (cg cs (1+2*i))=true:=by
 obtain⟨h2,h3⟩:=Zad (show bf (Zey fl h key) (@Nat.rec (fun _=>Bool) true (fun i ih=>bf (Zey fl h (cg cs (Nat.add 1 (Nat.mul 2 i)))) ih false) sz) false=true from h1) (by simp)
 refine⟨h2,?_⟩
 clear h1 h2
 induction sz with
 | zero=>intro i hi;omega
 | succ k ih=>
  intro i hi
  obtain⟨h4,h5⟩:=Zad (show bf (Zey fl h (cg cs (Nat.add 1 (Nat.mul 2 k)))) (@Nat.rec (fun _=>Bool) true (fun i ih=>bf (Zey fl h (cg cs (Nat.add 1 (Nat.mul 2 i)))) ih false) k) false=true from h3) (by simp)
  rcases Nat.lt_or_ge i k with q | q
  ·exact ih h5 i q
  ·have:i=k:=by omega
   subst this
   exact h4
theorem Zru (s:Sim P ρ m g h w) (hgf:g<=fl) {kt el:TypeId} {sz:Nat} (hu:P.underlying kt=some (.pointer el)) (hsz:Zed P el=some sz) (h0:sz≠0) {r:RV} {u:Value} {c:CT} {es:List MapEntry} (hk:kOf r=12) (ha:Zey fl h r=true) (hd:den ρ m r u)
  (hes:∀ i e,es[i]?=some e->den ρ m (cg c (1+2*i)) e.key) (hal:∀ i,i<es.length->Zey fl h (cg c (1+2*i))=true):∀ (n i:Nat) (x:Option Nat),i+n=es.length->Zjv 12 c r n i=some x ->
  (x=none/\(Instr.findAsking kt u (es.drop i) i).run P w=.ok none w)∨∃ j e,x=some j/\es[j]?=some e/\e.key=u/\(Instr.findAsking kt u (es.drop i) i).run P w=.ok (some (j,e.val)) w
 | 0,i,x,hl,e=>by
  have h':some none=some x:=e
  cases h'
  rw[List.drop_eq_nil_of_le (by omega)]
  exact .inl ⟨rfl,rfl⟩
 | n+1,i,x,hl,e=>by
  have hlt:i<es.length:=by omega
  have he:es[i]?=some es[i]:=List.getElem?_eq_getElem hlt
  have h':bf (Nat.beq (kOf (cg c (1+2*i))) 12) (bf (kEq r (cg c (1+2*i))) (some (some i)) (Zjv 12 c r n (i+1))) none=some x:=e
  rw[Zgq,Zgq] at h'
  split at h'
  ·rename_i h2
   have h2:=Nat.eq_of_beq_eq_true h2
   obtain⟨hiff,hq⟩:=Yc6 s hgf hu hsz h0 hk h2 ha (hal i hlt) hd (hes i _ he)
   have heq:(Op.equal kt u es[i].key).run P w=.ok (kEq r (cg c (1+2*i))) w:=hq 9999
   rw[List.drop_eq_getElem_cons hlt]
   split at h'
   ·rename_i h3
    cases h'
    exact .inr ⟨i,_,rfl,he,(hiff.1 h3).symm,by simp[Instr.findAsking,heq,h3]⟩
   ·rename_i h3
    have h3:kEq r (cg c (1+2*i))=false:=by simpa using h3
    rcases Zru s hgf hu hsz h0 hk ha hd hes hal n (i+1) x (by omega) h' with⟨h4,h5⟩ | ⟨j,e,h4,h5,h6,h7⟩
    ·exact .inl ⟨h4,by simp[Instr.findAsking,heq,h3,h5]⟩
    ·exact .inr ⟨j,e,h4,h5,h6,by simp[Instr.findAsking,heq,h3,h7]⟩
  ·cases h'
theorem Zwk (s:Sim P ρ m g h w) (hgf:g<=fl) {kt:TypeId} {q:Nat} {r:RV} {u:Value} {c:CT} {es:List MapEntry} (hq:Zel P kt=some q) (hk:kOf r=q) (hd:den ρ m r u) (hal:mOk q fl h r c es.length=true)
  (hes:∀ i e,es[i]?=some e->den ρ m (cg c (1+2*i)) e.key) (x:Option Nat) (e:Zjv q c r es.length 0=some x) :
  (x=none/\(Instr.findKey kt u es).run P w=.ok none w)∨∃ j e,x=some j/\es[j]?=some e/\e.key=u/\(Instr.findKey kt u es).run P w=.ok (some (j,e.val)) w:=by
 have asked:∀ d,P.underlying kt=some d->(∀ e,Instr.sameNow d u e=none) ->
   ((x=none/\(Instr.findAsking kt u es 0).run P w=.ok none w)∨∃ j e,x=some j/\es[j]?=some e/\e.key=u/\(Instr.findAsking kt u es 0).run P w=.ok (some (j,e.val)) w) ->
   (x=none/\(Instr.findKey kt u es).run P w=.ok none w)∨∃ j e,x=some j/\es[j]?=some e/\e.key=u/\(Instr.findKey kt u es).run P w=.ok (some (j,e.val)) w:=by
  intro d h1 hnow h4
  cases hes2:es with
  | nil=>
   subst hes2
   have h':some none=some x:=e
   cases h'
   exact .inl ⟨rfl,MapKept.run_findKey h1 rfl⟩
  | cons e0 l=>
   have hn:Instr.findNow d u es 0=none:=by
    rw[hes2]
    simp[Instr.findNow,hnow]
   have hrun:∀ a,(Instr.findAsking kt u es 0).run P w=.ok a w->(Instr.findKey kt u es).run P w=.ok a w:=fun a ha=>by
    simp[Instr.findKey,run_underlying h1,hn,ha]
   rw[<- hes2]
   rcases h4 with⟨h5,h6⟩ | ⟨j,e,h5,h6,h7,h8⟩
   ·exact .inl ⟨h5,hrun _ h6⟩
   ·exact .inr ⟨j,e,h5,h6,h7,hrun _ h8⟩
 rcases Zf5 hq with⟨d,h1,h2⟩ | ⟨fs,ks,h1,h2,h3,rfl⟩ | ⟨el,sz,h1,h2,h3,rfl⟩
 ·rcases Zr5 h2 hk hd hes es.length 0 x (by omega) e with⟨h4,h5⟩ | ⟨j,e,h4,h5,h6,h7⟩
  ·rw[List.drop_zero] at h5
   exact .inl ⟨h4,MapKept.run_findKey h1 h5⟩
  ·rw[List.drop_zero] at h7
   exact .inr ⟨j,e,h4,h5,h6,MapKept.run_findKey h1 h7⟩
 ·have h4:=Ydx h1 h3 h2 hk hd w hes es.length 0 x (by omega) e
  rw[List.drop_zero] at h4
  exact asked _ h1 (fun e=>by simp[Instr.sameNow]) h4
 ·have hal:mAl fl h r c es.length=true:=hal
  obtain⟨a1,a2⟩:=Yk0 hal
  have h4:=Zru s hgf h1 h2 h3 hk a1 hd hes a2 es.length 0 x (by omega) e
  rw[List.drop_zero] at h4
  exact asked _ h1 (fun e=>by simp[Instr.sameNow]) h4
end Go.Rn
namespace Go.Rn
variable {ρ:Rho} {m m':Mp} {P:Program}
variable {g fl n n' nt lim:Nat} {h h':HT} {t:FT} {a:Act} {o:Oper} {w:World} {v:RV} {ys:Ys} {cl:Cl'}
theorem Sim.newMap (s:Sim P ρ m g h w) (hn:m n=none) {c:CT} {ob:Obj} (hk:Spec P ρ (upd m n (w.heap.size,0,0)) c ob) :
  Sim P ρ (upd m n (w.heap.size,0,0)) g (hst h (.bk c Za2) n) (w.alloc ob):=by
 have hle:Le m (upd m n (w.heap.size,0,0)):=Zfa hn
 have hold:∀ b c z,b≠n->hg (hst h (.bk c z) n) b=hg h b:=fun b c z hb=>by
  rcases Za6 h (.bk c z) n b with⟨h1,_⟩ | ⟨_,h1⟩
  ·exact absurd h1 hb
  ·exact h1
 refine⟨fun b c' z' hb=>?_,fun b b' c1 z1 c2 z2 B O Z O' Z' h1 h2 h3 h4=>?_,s.old.alloc _,s.hi_upd _ s.old.lo⟩
 ·by_cases e:b=n
  ·subst e
   rcases Za6 h (.bk c Za2) b b with⟨_,h1 | h1⟩ | ⟨h1,_⟩
   ·rw[hb] at h1
    cases h1
    exact⟨_,_,_,Zao _ _,.inr ⟨rfl,ob,heap_alloc_new _ _,hk,rfl⟩⟩
   ·rw[hb] at h1;cases h1
   ·exact absurd rfl h1
  ·rw[hold b c Za2 e] at hb
   obtain⟨B,O,Z,h1,h2⟩:=s.cell b c' z' hb
   exact⟨B,O,Z,hle _ _ h1,h2.move (RowKit.Below.heap_alloc _ _ _ h2.lt) hle⟩
 ·have key:∀ b c1 z1 B O Z,b≠n->hg (hst h (.bk c Za2) n) b=.bk c1 z1->upd m n (w.heap.size,0,0) b=some (B,O,Z)->hg h b=.bk c1 z1/\m b=some (B,O,Z)/\B<w.heap.size:=fun b c1 z1 B O Z e h1 h3=>by
   rw[hold b c Za2 e] at h1
   have h5:m b=some (B,O,Z):=by
    unfold upd at h3;rwa [if_neg e] at h3
   exact⟨h1,h5,s.lt h1 h5⟩
  by_cases e:b=n
  ·by_cases e':b'=n
   ·omega
   ·obtain⟨_,_,h5⟩:=key b' c2 z2 B O' Z' e' h2 h4
    subst e
    rw[Zao] at h3
    cases h3
    omega
  ·by_cases e':b'=n
   ·obtain⟨_,_,h5⟩:=key b c1 z1 B O Z e h1 h3
    subst e'
    rw[Zao] at h4
    cases h4
    omega
   ·obtain⟨g1,g2,_⟩:=key b c1 z1 B O Z e h1 h3
    obtain⟨g3,g4,_⟩:=key b' c2 z2 B O' Z' e' h2 h4
    exact s.inj b b' c1 z1 c2 z2 B O Z O' Z' g1 g3 g2 g4
theorem Tr.newMap (s:Sim P ρ m g h w) (hn:m n=none) {c:CT} {ob:Obj} (hk:Spec P ρ (upd m n (w.heap.size,0,0)) c ob) :
  Tr P ρ g fl h n m w (hst h (.bk c Za2) n) (n+1) (upd m n (w.heap.size,0,0)) (w.alloc ob):=by
 refine⟨s.newMap hn hk,Zmc _ _,⟨rfl,rfl,rfl,by simp,fun k hk _=>RowKit.Below.heap_alloc _ _ _ hk,fun k r h=>⟨r,(RowKit.Below.heap_alloc _ _ _ (Array.getElem?_eq_some_iff.1 h).1).trans h⟩⟩,fun b c' z' B O Z h1 h2 h3=>?_⟩
 by_cases e:b=n
 ·subst e
  rw[Zao] at h3
  cases h3
  exact .inl (Nat.le_refl _)
 ·unfold upd at h3
  rw[if_neg e] at h3
  rcases Za6 h (.bk c Za2) n b with⟨h4,_⟩ | ⟨_,h4⟩
  ·exact absurd h4 e
  ·rw[h4] at h2
   exact .inr ⟨b,c',z',O,Z,h1,h2,h3⟩
theorem Tr.setMap {b B O Z:Nat} {c c':CT} {ob ob':Obj} (s:Sim P ρ m g h w) (hb:hg h b=.bk c Za2) (gb:g<=b) (fb:fl<=b) (hm:m b=some (B,O,Z)) (hh:w.heap[B]?=some ob) (hK:Spec P ρ m c' ob') (hl:∀ r,ob=.loop r->∃ r',ob'=.loop r') :
  Tr P ρ g fl h n m w (hst h (.bk c' Za2) b) n m { w with heap:=w.heap.setIfInBounds B ob' }:=by
 have hset:=MapKept.heap_set (o':=ob') hh
 have hold:∀ b',b'≠b->hg (hst h (.bk c' Za2) b) b'=hg h b':=fun b' hb'=>by
  rcases Za6 h (.bk c' Za2) b b' with⟨h1,_⟩ | ⟨_,h1⟩
  ·exact absurd h1 hb'
  ·exact h1
 have hbB:=s.hi b c Za2 B O Z gb hb hm
 have hO:O=0:=by
  obtain⟨B9,O9,Z9,q1,q2⟩:=s.cell b c Za2 hb
  rw[hm] at q1
  cases q1
  rcases q2 with⟨q2,_⟩ | ⟨_,o9,_,_,q2⟩
  ·exact absurd rfl q2
  ·exact q2
 refine⟨⟨fun b' c1 z1 e=>?_,fun b1 b2 c1 z1 c2 z2 B1 O1 Z1 O2 Z2 e1 e2 e3 e4=>?_,s.old.move rfl rfl rfl (by simp) (fun k hk=>hset.2 k (by omega)),s.hi_set hb _⟩,Ext.refl _ _ _,⟨rfl,rfl,rfl,by simp,fun k _ hn=>hset.2 k (fun eB=>hn b c Za2 O Z fb hb (by rw[eB];exact hm)),fun k r h=>(by
  by_cases e:k=B
  ·subst e
   obtain⟨r',hr'⟩:=hl r (Option.some.inj (hh.symm.trans h))
   exact⟨r',by rw[hset.1,hr']⟩
  ·exact⟨r,(hset.2 k e).trans h⟩)⟩,fun b' c1 z1 B1 O1 Z1 e1 e2 e3=>?_⟩
 ·by_cases eb:b'=b
  ·subst eb
   rcases Za6 h (.bk c' Za2) b' b' with⟨_,h1 | h1⟩ | ⟨h1,_⟩
   ·rw[e] at h1;cases h1
    exact⟨B,O,Z,hm,.inr ⟨rfl,ob',hset.1,hK,hO⟩⟩
   ·rw[e] at h1;cases h1
   ·exact absurd rfl h1
  ·rw[hold b' eb] at e
   obtain⟨B',O',Z',q1,q2⟩:=s.cell b' c1 z1 e
   exact⟨B',O',Z',q1,q2.move (hset.2 B' (fun eB=>by
    subst eB
    exact eb (s.inj b' b c1 z1 c Za2 B' O' Z' O Z e hb q1 hm))) (Le.refl _)⟩
 ·have key:∀ b1 c1 z1,hg (hst h (.bk c' Za2) b) b1=.bk c1 z1->∃ c2 z2,hg h b1=.bk c2 z2:=fun b1 c1 z1 e=>by
   by_cases eb:b1=b
   ·exact⟨c,Za2,by rw[eb];exact hb⟩
   ·rw[hold b1 eb] at e;exact⟨_,_,e⟩
  obtain⟨c3,z3,q1⟩:=key b1 c1 z1 e1
  obtain⟨c4,z4,q2⟩:=key b2 c2 z2 e2
  exact s.inj b1 b2 c3 z3 c4 z4 B1 O1 Z1 O2 Z2 q1 q2 e3 e4
 ·by_cases eb:b'=b
  ·subst eb;exact .inr ⟨b',c,Za2,O1,Z1,e1,hb,e3⟩
  ·rw[hold b' eb] at e2;exact .inr ⟨b',c1,z1,O1,Z1,e1,e2,e3⟩
theorem Sim.spec {b:Nat} {c:CT} (s:Sim P ρ m g h w) (hb:hg h b=.bk c Za2):∃ B O Z o,m b=some (B,O,Z)/\w.heap[B]?=some o/\Spec P ρ m c o:=by
 obtain⟨B,O,Z,h1,h2⟩:=s.cell b c Za2 hb
 rcases h2 with⟨h2,_⟩ | ⟨_,o,h2,h3,_⟩
 ·exact absurd rfl h2
 ·exact⟨B,O,Z,o,h1,h2,h3⟩
theorem Sim.told {b:Nat} {c:CT} {tag:RV} (s:Sim P ρ m g h w) (hb:hg h b=.bk c Za2) (ht:cg c 0=.tup tag):∃ B Z C el fr,m b=some (B,0,Z)/\w.heap[B]?=some (.cells C el fr)/\ρ.th tag (.cells C el fr):=by
 obtain⟨B,O,Z,h1,h2⟩:=s.cell b c Za2 hb
 rcases h2 with⟨h2,_⟩ | ⟨_,o,h2,h3,rfl⟩
 ·exact absurd rfl h2
 ·cases o with
  | cells C el fr=>
   obtain⟨tag',h4,h5⟩:=h3
   rw[ht] at h4
   cases h4
   exact⟨B,Z,C,el,fr,h1,h2,h5⟩
  | map es ck=>
   have h4:cg c 0=.i .i64 (.ofNat es.size):=h3.1
   rw[ht] at h4
   cases h4
  | loop rec=>
   obtain⟨key,st,_,_,_,_,_,_,_,h4,_⟩:=h3
   rw[ht] at h4
   cases h4
  | _=>exact h3.elim
theorem Sim.tell {n B:Nat} {tag:RV} {C:Array Value} {el:TypeId} {fr:Nat×Nat} (s:Sim P ρ m g h w) (hn:m n=none) (hB:ρ.base<=B) (hh:w.heap[B]?=some (.cells C el fr)) (ht:ρ.th tag (.cells C el fr)) (hno:∀ b c z O Z,hg h b=.bk c z->m b≠some (B,O,Z)) :
  Sim P ρ (upd m n (B,0,0)) g (hst h (.bk (cst ce (.tup tag) 0) Za2) n) w:=by
 have hle:Le m (upd m n (B,0,0)):=Zfa hn
 have hold:∀ b,b≠n->hg (hst h (.bk (cst ce (.tup tag) 0) Za2) n) b=hg h b:=fun b hb=>by
  rcases Za6 h (.bk (cst ce (.tup tag) 0) Za2) n b with⟨h1,_⟩ | ⟨_,h1⟩
  ·exact absurd h1 hb
  ·exact h1
 have hup:∀ b,b≠n->upd m n (B,0,0) b=m b:=fun b e=>by unfold upd;rw[if_neg e]
 refine⟨fun b c' z' hb=>?_,fun b b' c1 z1 c2 z2 B1 O Z O' Z' h1 h2 h3 h4=>?_,s.old,s.hi_upd _ hB⟩
 ·by_cases e:b=n
  ·subst e
   rcases Za6 h (.bk (cst ce (.tup tag) 0) Za2) b b with⟨_,h1 | h1⟩ | ⟨h1,_⟩
   ·rw[hb] at h1
    cases h1
    exact⟨_,_,_,Zao _ _,.inr ⟨rfl,_,hh,⟨tag,Zch _ _ 0 (by decide),ht⟩,rfl⟩⟩
   ·rw[hb] at h1;cases h1
   ·exact absurd rfl h1
  ·rw[hold b e] at hb
   obtain⟨B,O,Z,h1,h2⟩:=s.cell b c' z' hb
   exact⟨B,O,Z,hle _ _ h1,h2.move rfl hle⟩
 ·by_cases e:b=n
  ·by_cases e':b'=n
   ·omega
   ·subst e
    rw[Zao] at h3
    cases h3
    rw[hold b' e'] at h2
    rw[hup b' e'] at h4
    exact absurd h4 (hno _ _ _ _ _ h2)
  ·rw[hold b e] at h1
   rw[hup b e] at h3
   by_cases e':b'=n
   ·subst e'
    rw[Zao] at h4
    cases h4
    exact absurd h3 (hno _ _ _ _ _ h1)
   ·rw[hold b' e'] at h2
    rw[hup b' e'] at h4
    exact s.inj b b' c1 z1 c2 z2 B1 O Z O' Z' h1 h2 h3 h4
theorem Sim.map {b:Nat} {c:CT} {q:Nat} (s:Sim P ρ m g h w) (hb:hg h b=.bk c Za2) (hsz:Zl3 c=some q):∃ B O Z es ck,m b=some (B,O,Z)/\w.heap[B]?=some (.map es ck)/\MapK ρ m c es:=by
 obtain⟨B,O,Z,o,h1,h2,h3⟩:=s.spec hb
 cases o with
 | map es ck=>exact⟨B,O,Z,es,ck,h1,h2,h3⟩
 | loop rec=>
  obtain⟨key,st,_,_,_,_,_,_,_,h4,_⟩:=h3
  unfold Zl3 at hsz
  rw[h4] at hsz
  cases hsz
 | cells C el fr=>
  obtain⟨tag,h4,_⟩:=h3
  unfold Zl3 at hsz
  rw[h4] at hsz
  cases hsz
 | _=>exact h3.elim
theorem Sim.loop {b k:Nat} {c:CT} {st:RV} (s:Sim P ρ m g h w) (hb:hg h b=.bk c Za2) (hc:cg c 0=.fn k st):∃ B O Z rec,m b=some (B,O,Z)/\w.heap[B]?=some (.loop rec)/\Yj9 P ρ m c rec:=by
 obtain⟨B,O,Z,o,h1,h2,h3⟩:=s.spec hb
 cases o with
 | map es ck=>
  have h4:cg c 0=.i .i64 (.ofNat es.size):=h3.1
  rw[hc] at h4
  cases h4
 | loop rec=>exact⟨B,O,Z,rec,h1,h2,h3⟩
 | cells C el fr=>
  obtain⟨tag,h4,_⟩:=h3
  rw[hc] at h4
  cases h4
 | _=>exact h3.elim
theorem Zr4 {c:CT} {es:Array MapEntry} {q:Nat} (hK:MapK ρ m c es) (e:Zl3 c=some q):q=es.size:=by
 unfold Zl3 at e
 rw[hK.1] at e
 have e':some es.size=some q:=e
 cases e';rfl
theorem Yql (s:Sim P ρ m g h w) (hf:fl<=n) {ty kt el:TypeId} {r:Option Operand} (ho:o.op=.makeMap ty r) (ht:P.underlying ty=some (.map kt el)) (hr:r.all Zv9=true)
  (e:step .mk ys cl fl lim t h n=.ok v h' n'):Ok1 P ρ g fl o a m w h n v h' n':=by
 have e1:fT (cst ce (.i .i64 (.ofNat 0)) 0) (fun cs=>fT (hst h (.bk cs Za2) n) fun h=>SR.ok (.mp n) h (Nat.succ n))=.ok v h' n':=e
 rw[Zb4,Zb4] at e1
 cases e1
 refine⟨Ab.new _ hf,fun hfr K Q hK=>?_⟩
 have hn:m n=none:=hfr n (Nat.le_refl _) (Nat.lt_succ_self _)
 have hMK:MapK ρ (upd m n (w.heap.size,0,0)) (cst ce (.i .i64 (.ofNat 0)) 0) #[]:=⟨Zch _ _ 0 (by decide),fun i e he=>by simp at he⟩
 refine Zc9 (w':=w.alloc (.map #[] 0)) (u:=.map (some w.heap.size)) ?_ (hK _ _ _ (Tr.newMap (ob:=.map #[] 0) s hn hMK) ⟨w.heap.size,0,0,Zao _ _,rfl⟩)
 cases r with
 | none=>simp[execOp,ho,Instr.makeMap,newObj];rfl
 | some x=>
  cases x with
  | const c=>cases c<;>first | cases hr;done | (simp[execOp,ho,Instr.makeMap,run_underlying ht,newObj,asInt];rfl)
  | _=>cases hr
theorem Yqk (F:Fr P ρ m nt t a.tmps) (s:Sim P ρ m g h w) (hgf:g<=fl) {ty kt el:TypeId} {mo ko:Operand} {two:Bool} {z:Value} {q:Nat} (ho:o.op=.lookup ty mo ko two) (ht:P.underlying ty=some (.map kt el)) (hz:Zct P el=some z) (hq:Zel P kt=some q)
  (e:step (.ml q (Zid z) two (opd P nt mo) (opd P nt ko)) ys cl fl lim t h n=.ok v h' n'):Ok1 P ρ g fl o a m w h n v h' n':=by
 have e1:gM (SR.bad [140]) (ev t (opd P nt mo)) (fun b=>bf (Nat.ble (Nat.succ b) lim) (gMK (.bad [141]) (hg h b) fun cs=>gO (.bad [142]) (Zl3 cs) fun s=>
  bf (bf (mOk q fl h (ev t (opd P nt ko)) cs s) (Nat.beq (kOf (ev t (opd P nt ko))) q) false) (gO (.bad [144]) (Zjv q cs (ev t (opd P nt ko)) s 0) fun x=>Ynd two (Zid z) cs h n x) (.bad [143])) (.bad [145]))=.ok v h' n':=e
 obtain⟨b,hb,e2⟩:=Yed e1 (by simp)
 rcases Za0 e2 with⟨_,e3⟩ | ⟨_,e3⟩
 case inr=>cases e3
 obtain⟨c,hc,e4⟩:=Zfg e3 (by simp)
 obtain⟨sz,hsz,e5⟩:=Za5 e4 (by simp)
 rcases Za0 e5 with⟨hkb,e6⟩ | ⟨_,e6⟩
 case inr=>cases e6
 obtain⟨hal,hk0⟩:=Zad hkb (by simp)
 have hkk:=Nat.eq_of_beq_eq_true hk0
 clear hk0 hkb
 obtain⟨x,hx,e7⟩:=Za5 e6 (by simp)
 have dm:=Zai F mo (fun q=>by rw[q] at hb;cases hb)
 rw[hb] at dm
 obtain⟨B,O,Z,hm,hmv⟩:=dm
 have dk:=Zai F ko (Ydi hq hkk)
 obtain⟨B',O',Z',es,ck,hm',hh,hK⟩:=s.map hc hsz
 rw[hm] at hm'
 cases hm'
 have hs:=Zr4 hK hsz
 have hck:=fun b=>Zsl hq hkk dk b w
 subst hs
 have hfind:=Zwk (es:=es.toList) (c:=c) s hgf hq hkk dk (by simpa using hal) (fun i e he=>(hK.2 i e (by simpa using he)).1) x (by simpa using hx)
 unfold Ynd at e7
 obtain⟨hu,e8⟩:=Za4 e7 (by simp)
 rcases hfind with⟨rfl,hf⟩ | ⟨j,en,rfl,hj,_,hf⟩
 ·have hzd:den ρ m (Zid z) z:=Zmz hu
  have hrun:(Instr.lookup ty (a.eval mo) (a.eval ko) two).run P w=.ok (if two then .tuple #[z,.bool false] else z) w:=by
   simp[Instr.lookup,run_underlying ht,hmv,MapKept.run_getObj_map hh,hck,hf,Zdx hz]
  have hex:(execOp a.eval o).run P w=.ok (.value (if two then .tuple #[z,.bool false] else z)) w:=by
   simp[execOp,ho,hrun]
  cases two with
  | true=>
   cases e8
   exact Ok1.quiet s hex ⟨[z,.bool false],denC_cons.2 ⟨_,_,rfl,hzd,denC_cons.2 ⟨_,_,rfl,rfl,denC_nil.2 rfl⟩⟩,rfl⟩
  | false=>
   cases e8
   exact Ok1.quiet s hex hzd
 ·have hj':es[j]?=some en:=by simpa using hj
  obtain⟨_,hv,_,hvu⟩:=hK.2 j en hj'
  have hrun:(Instr.lookup ty (a.eval mo) (a.eval ko) two).run P w=.ok (if two then .tuple #[en.val,.bool true] else en.val) w:=by
   simp[Instr.lookup,run_underlying ht,hmv,MapKept.run_getObj_map hh,hck,hf]
  have hex:(execOp a.eval o).run P w=.ok (.value (if two then .tuple #[en.val,.bool true] else en.val)) w:=by
   simp[execOp,ho,hrun]
  cases two with
  | true=>
   cases e8
   exact Ok1.quiet s hex ⟨[en.val,.bool true],denC_cons.2 ⟨_,_,rfl,hv,denC_cons.2 ⟨_,_,rfl,rfl,denC_nil.2 rfl⟩⟩,rfl⟩
  | false=>
   cases e8
   exact Ok1.quiet s hex hv
theorem Yjv (F:Fr P ρ m nt t a.tmps) (s:Sim P ρ m g h w) (hgf:g<=fl) {ty kt el:TypeId} {mo ko xo:Operand} {q:Nat} (ho:o.op=.insert ty mo ko xo∨o.op=.mapUpdate ty mo ko xo) (ht:P.underlying ty=some (.map kt el)) (hq:Zel P kt=some q)
  (e:step (.mi q (opd P nt mo) (opd P nt ko) (opd P nt xo)) ys cl fl lim t h n=.ok v h' n'):Ok1 P ρ g fl o a m w h n v h' n':=by
 have e1:gM (SR.bad [130]) (ev t (opd P nt mo)) (fun b=>bf (Nat.ble fl b) (gMK (.bad [131]) (hg h b) fun cs=>gO (.bad [132]) (Zl3 cs) fun s=>bf (Nat.ble s 65536)
  (bf (bf (mOk q fl h (ev t (opd P nt ko)) cs s) (Nat.beq (kOf (ev t (opd P nt ko))) q) false) (gO (.bad [134]) (Zjv q cs (ev t (opd P nt ko)) s 0) fun x=>nU (.bad [135]) (ev t (opd P nt xo)) fun v=>nU (.bad [136]) (ev t (opd P nt ko)) fun key=>fT (Yhq cs key v s x) fun cs=>fT (hst h (.bk cs Za2) b) fun h=>.ok .ud h n) (.bad [133])) (.bad [137])) (.bad [138]))=.ok v h' n':=e
 obtain⟨b,hb,e2⟩:=Yed e1 (by simp)
 rcases Za0 e2 with⟨hfb,e3⟩ | ⟨_,e3⟩
 case inr=>cases e3
 have hfb:=Nat.le_of_ble_eq_true hfb
 obtain⟨c,hc,e4⟩:=Zfg e3 (by simp)
 obtain⟨sz,hsz,e5⟩:=Za5 e4 (by simp)
 rcases Za0 e5 with⟨hsm,e5⟩ | ⟨_,e5⟩
 case inr=>cases e5
 have hsm:=Nat.le_of_ble_eq_true hsm
 rcases Za0 e5 with⟨hkb,e6⟩ | ⟨_,e6⟩
 case inr=>cases e6
 obtain⟨hal,hk0⟩:=Zad hkb (by simp)
 have hkk:=Nat.eq_of_beq_eq_true hk0
 clear hk0 hkb
 obtain⟨x,hx,e7⟩:=Za5 e6 (by simp)
 obtain⟨hxu,e7⟩:=Za4 e7 (by simp)
 obtain⟨hku,e7⟩:=Za4 e7 (by simp)
 rw[Zb4,Zb4] at e7
 cases e7
 have dm:=Zai F mo (fun q=>by rw[q] at hb;cases hb)
 rw[hb] at dm
 obtain⟨B,O,Z,hm,hmv⟩:=dm
 have dk:=Zai F ko (Ydi hq hkk)
 have dx:=Zai F xo hxu
 obtain⟨B',O',Z',es,ck,hm',hh,hK⟩:=s.map hc hsz
 rw[hm] at hm'
 cases hm'
 have hs:=Zr4 hK hsz
 subst hs
 have hck:=fun b=>Zsl hq hkk dk b w
 have hst:=Yev hq hkk dk w
 have hfind:=Zwk (es:=es.toList) (c:=c) s hgf hq hkk dk (by simpa using hal) (fun i e he=>(hK.2 i e (by simpa using he)).1) x (by simpa using hx)
 refine⟨Ab.set _ hfb (fun _ _ _=>⟨_,_,hc⟩),fun _ K Q hKK=>?_⟩
 rcases hfind with⟨rfl,hf⟩ | ⟨j,en,rfl,hj,hje,hf⟩
 ·have hK':MapK ρ m (Yhq c (ev t (opd P nt ko)) (ev t (opd P nt xo)) es.size none) (es.push { key:=a.eval ko,val:=a.eval xo,born:=ck }):=by
   have e0:Yhq c (ev t (opd P nt ko)) (ev t (opd P nt xo)) es.size none=cst (cst (cst c (ev t (opd P nt ko)) (1+2*es.size)) (ev t (opd P nt xo)) (2+2*es.size)) (.i .i64 (.ofNat (es.size+1))) 0:=by
    show fT _ _=_
    rw[Zb4,Zb4];rfl
   rw[e0]
   refine⟨by rw[Zch _ _ _ (by decide)];simp,fun i e he=>?_⟩
   rw[Array.getElem?_push] at he
   rw[Zbq _ _ (by omega),Zbq _ _ (show 2+2*i≠0 by omega)]
   split at he
   ·rename_i hi
    subst hi
    cases he
    rw[Zbq _ _ (by omega),Zch _ _ _ (by omega),Zch _ _ _ (by omega)]
    exact⟨dk,dx,hku,hxu⟩
   ·rename_i hi
    rw[Zbq _ _ (by omega),Zbq _ _ (by omega),Zbq _ _ (by omega),Zbq _ _ (by omega)]
    exact hK.2 i e he
  have hT:=Tr.setMap (n:=n) (ob':=.map _ (ck+1)) s hc (Nat.le_trans hgf hfb) hfb hm hh hK' (fun _ h=>by cases h)
  refine Zp2 ?_ (hKK _ _ _ hT rfl)
  have hrun:(Instr.mapUpdate ty (a.eval mo) (a.eval ko) (a.eval xo)).run P w=.ok () { w with heap:=w.heap.setIfInBounds B (.map (es.push { key:=a.eval ko,val:=a.eval xo,born:=ck }) (ck+1)) }:=by
   simp[Instr.mapUpdate,run_underlying ht,hmv,MapKept.run_getObj_map hh,hck,hf,MapKept.run_setObj_map _ hh,Result.andThen]
  rcases ho with ho | ho<;>simp[execOp,ho,hrun]
 ·have hj':es[j]?=some en:=by simpa using hj
  have hjl:j<es.size:=(Array.getElem?_eq_some_iff.1 hj').1
  have hK':MapK ρ m (Yhq c (ev t (opd P nt ko)) (ev t (opd P nt xo)) es.size (some j)) (es.modify j fun e=>{ e with key:=a.eval ko,val:=a.eval xo }):=by
   have e0:Yhq c (ev t (opd P nt ko)) (ev t (opd P nt xo)) es.size (some j)=cst c (ev t (opd P nt xo)) (2+2*j):=rfl
   rw[e0]
   refine⟨by rw[Zbq _ _ (by omega),hK.1];simp,fun i e he=>?_⟩
   rw[Zbq _ _ (show 1+2*i≠2+2*j by omega)]
   rw[Array.getElem?_modify] at he
   split at he
   ·rename_i hi
    subst hi
    rw[hj'] at he
    cases he
    obtain⟨k1,k2,k3,k4⟩:=hK.2 j en hj'
    rw[Zch _ _ _ (by omega)]
    exact⟨hje▸k1,dx,k3,hxu⟩
   ·rename_i hi
    rw[Zbq _ _ (by omega)]
    exact hK.2 i e he
  have hT:=Tr.setMap (n:=n) (ob':=.map _ ck) s hc (Nat.le_trans hgf hfb) hfb hm hh hK' (fun _ h=>by cases h)
  refine Zp2 ?_ (hKK _ _ _ hT rfl)
  have hrun:(Instr.mapUpdate ty (a.eval mo) (a.eval ko) (a.eval xo)).run P w=.ok () { w with heap:=w.heap.setIfInBounds B (.map (es.modify j fun e=>{ e with key:=a.eval ko,val:=a.eval xo }) ck) }:=by
   simp[Instr.mapUpdate,run_underlying ht,hmv,MapKept.run_getObj_map hh,hck,hf,hj',hje,hst,MapKept.run_setObj_map _ hh,Result.andThen]
  rcases ho with ho | ho<;>simp[execOp,ho,hrun]
theorem Yjt (F:Fr P ρ m nt t a.tmps) (s:Sim P ρ m g h w) (hgf:g<=fl) {op:BinOp} {neg:Bool} (hop:(op=.eql/\neg=false)∨(op=.neq/\neg=true)) {ty yt el:TypeId} {x y:Operand} {sz:Nat} (ho:o.op=.binOp op ty x y yt) (hu:P.underlying ty=some (.pointer el)) (hsz:Zed P el=some sz) (h0:sz≠0)
  (e:step (.pq neg (opd P nt x) (opd P nt y)) ys cl fl lim t h n=.ok v h' n'):Ok1 P ρ g fl o a m w h n v h' n':=by
 have e1:bf (bf (Nat.beq (kOf (ev t (opd P nt x))) 12) (bf (Nat.beq (kOf (ev t (opd P nt y))) 12) (bf (Zey fl h (ev t (opd P nt x))) (Zey fl h (ev t (opd P nt y))) false) false) false)
  (SR.ok (mkB (eqB neg (Zh7 (kEq (ev t (opd P nt x)) (ev t (opd P nt y)))))) h n) (.bad [197])=.ok v h' n':=e
 obtain⟨e2,e3⟩:=Zad e1 (by simp)
 cases e3
 obtain⟨k1,e4⟩:=Zad e2 (by simp)
 obtain⟨k2,e5⟩:=Zad e4 (by simp)
 obtain⟨a1,a2⟩:=Zad e5 (by simp)
 have k1:=Nat.eq_of_beq_eq_true k1
 have k2:=Nat.eq_of_beq_eq_true k2
 have un:∀ r:RV,kOf r=12->r≠.un:=fun r hr q=>by rw[q] at hr;cases hr
 have dx:=Zai F x (un _ k1)
 have dy:=Zai F y (un _ k2)
 obtain⟨_,hq⟩:=Yc6 s hgf hu hsz h0 k1 k2 a1 a2 dx dy
 have heq:(Op.equal ty (a.eval x) (a.eval y)).run P w=.ok (kEq (ev t (opd P nt x)) (ev t (opd P nt y))) w:=hq 9999
 generalize kEq (ev t (opd P nt x)) (ev t (opd P nt y))=b at *
 obtain⟨A,hA⟩:=Zme k1 dx
 obtain⟨A',hA'⟩:=Zme k2 dy
 rw[hA,hA'] at heq
 have gu:∀ op:BinOp,(eqGuard op ty x y (.pointer A) (.pointer A')).run P w=.ok () w:=fun op=>Zc8 (by simp) (fun _=>by simp) w
 have b1:(binOp .eql ty (.pointer A) (.pointer A')).run P w=.ok (.bool b) w:=by
  have:binOp .eql ty (.pointer A) (.pointer A')=(do pure (.bool (<- Op.equal ty (.pointer A) (.pointer A'))):Sem Value):=rfl
  rw[this];simp[heq]
 have b2:(binOp .neq ty (.pointer A) (.pointer A')).run P w=.ok (.bool (!b)) w:=by
  have:binOp .neq ty (.pointer A) (.pointer A')=(do pure (.bool (!(<- Op.equal ty (.pointer A) (.pointer A')))):Sem Value):=rfl
  rw[this];simp[heq]
 rw[Zcg,Zi0,Zd2]
 rcases hop with⟨rfl,rfl⟩ | ⟨rfl,rfl⟩
 ·exact Ok1.quiet (u:=.bool b) s (by simp[execOp,ho,hA,hA',gu,b1]) (by cases b<;>rfl)
 ·exact Ok1.quiet (u:=.bool (!b)) s (by simp[execOp,ho,hA,hA',gu,b2]) (by cases b<;>rfl)
end Go.Rn
namespace Go.Rn
variable {ρ:Rho} {m m':Mp} {P:Program}
variable {g fl n n' nt lim:Nat} {h h':HT} {t:FT} {a:Act} {o:Oper} {w:World} {v:RV} {ys:Ys} {cl:Cl'}
theorem Zhj (e:step Zh8 ys cl fl lim t h n=.ok v h' n'):False:=by
 have e1:gT (SR.bad [63]) (RV.un) (fun c=>okV (Zgo c 0) h n 64)=.ok v h' n':=e
 cases e1
theorem Yda (F:Fr P ρ m nt t a.tmps) (s:Sim P ρ m g h w) {x:Operand} (ho:o.op=.move x∨o.op=.assign x) (e:step (mvP P nt x) ys cl fl lim t h n=.ok v h' n'):Ok1 P ρ g fl o a m w h n v h' n':=by
 unfold mvP at e
 split at e
 ·have e1:SR.ok .un h n=.ok v h' n':=e
  cases e1
  refine Ok1.quiet (u:=a.eval x) s ?_ trivial
  rcases ho with ho | ho<;>simp[execOp,ho]
 ·exact Yqi F s ho e
theorem Zrr {el:TypeId} {x y:Operand} (h:¬ (Zle x||Zle y||decide (Zed P el=some 0)||decide (Zed P el=none))=true):∃ sz,Zed P el=some sz/\sz≠0:=by
 cases hz:Zed P el with
 | none=>rw[hz] at h;simp at h
 | some sz=>rw[hz] at h;exact⟨sz,rfl,by simp at h;exact h.2⟩
theorem Zpw (hy:YsOk ρ ys) (hcl:ClOk P ρ g cl) (F:Fr P ρ m nt t a.tmps) (s:Sim P ρ m g h w) (hgf:g<=fl) (hf:fl<=n) {rp:RP} (hc:Zaz P nt o.op=some rp)
  (e:step rp ys cl fl lim t h n=.ok v h' n'):Ok1 P ρ g fl o a m w h n v h' n':=by
 cases ho:o.op with
 | move x=>rw[ho] at hc;cases hc;exact Yda F s (.inl ho) e
 | assign x=>rw[ho] at hc;cases hc;exact Yda F s (.inr ho) e
 | pick c x y=>rw[ho] at hc;cases hc;exact Yf8 F s ho e
 | alloc ty=>
  rw[ho] at hc
  have hc1:(Zct P ty).bind (fun z=>some (.al (chain z.cells.toList)))=some rp:=hc
  obtain⟨z,hz,e1⟩:=Option.bind_eq_some_iff.1 hc1
  cases e1
  exact Yq9 s hf ho hz e
 | box ty x=>rw[ho] at hc;cases hc;exact Yq4 F s hf ho e
 | build ty ps=>
  rw[ho] at hc
  simp only[Zaz,Option.bind_eq_bind,Option.bind_eq_some_iff] at hc
  obtain⟨z,hz,l,hl,h1⟩:=hc
  split at h1
  ·rename_i hk
   cases h1
   exact Yq6 F s ho hz hl hk e
  ·cases h1
 | buildSlice ty len ps=>
  rw[ho] at hc
  simp only[Zaz] at hc
  split at hc
  ·rename_i el hu
   simp only[Option.bind_eq_bind,Option.bind_eq_some_iff] at hc
   obtain⟨sz,hs,z,hz,h1⟩:=hc
   split at h1
   ·rename_i hk
    cases h1
    exact Yq5 F s hf ho hu hs hz hk.1 hk.2.1 hk.2.2.1 hk.2.2.2 e
   ·cases h1
  ·cases hc
 | load ty x=>
  rw[ho] at hc
  simp only[Zaz,Option.bind_eq_bind,Option.bind_eq_some_iff] at hc
  obtain⟨sz,hs,gg,hg,h1⟩:=hc
  cases h1
  exact Yqq F s hf ho hs hg e
 | store ty x y=>
  rw[ho] at hc
  simp only[Zaz,Option.bind_eq_bind,Option.bind_eq_some_iff] at hc
  obtain⟨sz,hs,h1⟩:=hc
  split at h1
  ·rename_i h0
   cases h1
   exact Yqa F s hf hgf h0 ho hs e
  ·cases h1
 | nilCheck x=>rw[ho] at hc;cases hc;exact Yqh F s ho e
 | binOp op ty x y yt=>
  rw[ho] at hc
  simp only[Zaz] at hc
  split at hc
  ·split at hc
   ·rename_i hu;cases hc;exact Yjx F s (.inl ⟨rfl,rfl⟩) ho hu e
   ·rename_i el hu
    split at hc
    ·cases hc;exact Zns F s (.inl ⟨rfl,rfl⟩) ho (.inl ⟨rfl,el,hu⟩) (fun h=>by cases h) e
    ·rename_i hc0
     cases hc
     obtain⟨sz,h1,h2⟩:=Zrr hc0
     exact Yjt F s hgf (.inl ⟨rfl,rfl⟩) ho hu h1 h2 e
   ·rename_i el hu;cases hc;exact Zns F s (.inl ⟨rfl,rfl⟩) ho (.inr (.inl ⟨rfl,el,hu⟩)) (fun h=>by cases h) e
   ·rename_i a b c hu;cases hc;exact Zns F s (.inl ⟨rfl,rfl⟩) ho (.inr (.inr (.inl ⟨rfl,a,b,c,hu⟩))) (fun h=>by cases h) e
   ·rename_i ms hu
    split at hc
    ·rename_i hcc;cases hc;exact Zns F s (.inl ⟨rfl,rfl⟩) ho (.inr (.inr (.inr ⟨rfl,ms,hu⟩))) (fun _=>by simpa using hcc) e
    ·cases hc;exact Ydb F s (.inl ⟨rfl,rfl⟩) ho hu e
   ·rename_i fs hu;cases hc;exact Ydc F s hy (.inl ⟨rfl,rfl⟩) ho hu e
   ·rename_i len el hu;cases hc;exact Ydd F s hy (.inl ⟨rfl,rfl⟩) ho hu e
   ·cases hc;exact Zpk F s hy ho e
  ·split at hc
   ·rename_i hu;cases hc;exact Yjx F s (.inr ⟨rfl,rfl⟩) ho hu e
   ·rename_i el hu
    split at hc
    ·cases hc;exact Zns F s (.inr ⟨rfl,rfl⟩) ho (.inl ⟨rfl,el,hu⟩) (fun h=>by cases h) e
    ·rename_i hc0
     cases hc
     obtain⟨sz,h1,h2⟩:=Zrr hc0
     exact Yjt F s hgf (.inr ⟨rfl,rfl⟩) ho hu h1 h2 e
   ·rename_i el hu;cases hc;exact Zns F s (.inr ⟨rfl,rfl⟩) ho (.inr (.inl ⟨rfl,el,hu⟩)) (fun h=>by cases h) e
   ·rename_i a b c hu;cases hc;exact Zns F s (.inr ⟨rfl,rfl⟩) ho (.inr (.inr (.inl ⟨rfl,a,b,c,hu⟩))) (fun h=>by cases h) e
   ·rename_i ms hu
    split at hc
    ·rename_i hcc;cases hc;exact Zns F s (.inr ⟨rfl,rfl⟩) ho (.inr (.inr (.inr ⟨rfl,ms,hu⟩))) (fun _=>by simpa using hcc) e
    ·cases hc;exact Ydb F s (.inr ⟨rfl,rfl⟩) ho hu e
   ·rename_i fs hu;cases hc;exact Ydc F s hy (.inr ⟨rfl,rfl⟩) ho hu e
   ·rename_i len el hu;cases hc;exact Ydd F s hy (.inr ⟨rfl,rfl⟩) ho hu e
   ·cases hc;exact Zpk F s hy ho e
  ·cases hc;exact Zpk F s hy ho e
 | unOp op ty x=>
  rw[ho] at hc
  simp only[Zaz] at hc
  split at hc
  ·cases hc;exact Yqg F s ho e
  ·cases hc;exact Yqf F s ho e
  ·cases hc
 | convert sr ds x=>
  rw[ho] at hc
  simp only[Zaz] at hc
  split at hc
  ·rename_i d k h1 h2;cases hc;exact Yqz F s ho h1 h2 e
  ·rename_i el h1 h2
   split at hc
   ·rename_i h3;cases hc;exact Yq7 F s ho h1 h2 h3 e
   ·cases hc
  ·cases hc
 | makeFunc fn first captured=>
  rw[ho] at hc
  simp only[Zaz] at hc
  split at hc
  ·rename_i f hf1
   split at hc
   ·rename_i hlt;cases hc;exact Yqm F s ho hf1 hlt e
   ·cases hc
  ·rename_i f x hf1
   split at hc
   ·rename_i hlt;cases hc;exact Yqn F s hlt ho hf1 e
   ·cases hc
  ·cases hc
 | makeSlice ty l c=>
  rw[ho] at hc
  simp only[Zaz] at hc
  split at hc
  ·rename_i el hu
   simp only[Option.bind_eq_bind,Option.bind_eq_some_iff] at hc
   obtain⟨i,hi,z,hz,h1⟩:=hc
   split at h1
   ·rename_i hk
    cases h1
    exact Yqj F s hf ho hu hi hz hk.1 hk.2.1 hk.2.2.1 hk.2.2.2 e
   ·cases h1
  ·cases hc
 | slice ty x lo hi mx=>
  rw[ho] at hc
  simp only[Zaz] at hc
  split at hc
  ·rename_i el hu
   simp only[Option.bind_eq_bind,Option.bind_eq_some_iff] at hc
   obtain⟨sz,hs,h1⟩:=hc
   split at h1
   ·rename_i hk
    cases h1
    exact Yqc F s ho hu hs hk.2 e
   ·cases h1
  ·rename_i hu
   split at hc
   ·rename_i hk
    cases hc
    exact Yqb F s ho hu hk e
   ·cases hc
  ·rename_i k el hu
   simp only[Option.bind_eq_bind,Option.bind_eq_some_iff] at hc
   obtain⟨sz,hs,h1⟩:=hc
   split at h1
   ·rename_i hk
    cases h1
    exact Yqd F s ho hu hs hk.2 e
   ·cases h1
  ·cases hc
 | fieldAddr ty x k=>
  rw[ho] at hc
  simp only[Zaz] at hc
  split at hc
  ·rename_i fs hu
   simp only[Option.bind_eq_bind,Option.bind_eq_some_iff] at hc
   obtain⟨f,hf1,sz,hs,h1⟩:=hc
   split at h1
   ·rename_i h0
    cases h1
    exact Yqw F s ho hu hf1 hs h0 e
   ·cases h1
  ·cases hc
 | field ty x k=>
  rw[ho] at hc
  simp only[Zaz] at hc
  split at hc
  ·rename_i fs hu
   simp only[Option.bind_eq_bind,Option.bind_eq_some_iff] at hc
   obtain⟨f,hf1,sz,hs,gg,hg,h1⟩:=hc
   cases h1
   exact Yqv F s ho hu hf1 hs hg e
  ·cases hc
 | indexAddr ty x i=>
  rw[ho] at hc
  simp only[Zaz] at hc
  split at hc
  ·rename_i el hu
   simp only[Option.bind_eq_bind,Option.bind_eq_some_iff] at hc
   obtain⟨sz,hs,h1⟩:=hc
   split at h1
   ·cases h1;exact Yqu F s ho hu hs e
   ·cases h1
  ·rename_i k el hu
   simp only[Option.bind_eq_bind,Option.bind_eq_some_iff] at hc
   obtain⟨sz,hs,h1⟩:=hc
   split at h1
   ·cases h1;exact Yqt F s ho hu hs e
   ·cases h1
  ·cases hc
 | index ty x i=>
  rw[ho] at hc
  simp only[Zaz] at hc
  split at hc
  ·rename_i k el hu
   simp only[Option.bind_eq_bind,Option.bind_eq_some_iff] at hc
   obtain⟨sz,hs,gg,hg,h1⟩:=hc
   split at h1
   ·cases h1;exact Yqr F s ho hu hs hg e
   ·cases h1
  ·rename_i hu;cases hc;exact Yp9 F s ho hu e
  ·cases hc
 | extract x k=>rw[ho] at hc;cases hc;exact Yqx F s ho e
 | makeInterface ty x=>
  rw[ho] at hc
  simp only[Zaz] at hc
  split at hc
  ·cases hc
  ·rename_i d hne hu;cases hc;exact Yf9 F s ho hu hne e
  ·cases hc
 | typeAssert x xt ty two=>
  rw[ho] at hc
  simp only[Zaz] at hc
  split at hc
  ·cases hc
  ·rename_i d hne hu
   simp only[Option.bind_eq_bind,Option.bind_eq_some_iff] at hc
   obtain⟨z,hz,h1⟩:=hc
   cases h1
   exact Yp8 F s ho hu hne hz e
  ·cases hc
 | call c=>
  rw[ho] at hc
  simp only[Zaz,Zsi] at hc
  split at hc
  ·rename_i f hcc
   split at hc
   ·rename_i hk;cases hc;exact Yq2 F s hcl hgf hf ho hcc hk.1 hk.2 e
   ·cases hc
  ·rename_i x _ hcc;cases hc;exact Yq3 F s hcl hgf hf ho hcc e
  ·rename_i x name hcc;cases hc;exact Yqs F s hcl hgf hf ho hcc e
  ·rename_i b hcc
   split at hc
   ·rename_i x ty hx ht
    split at hc
    ·rename_i hu;cases hc;exact Yqo F s ho hcc hx ht hu e
    ·rename_i el hu;cases hc;exact Yqp F s hy ho hcc hx ht hu e
    ·rename_i k el hu;cases hc;exact Yjw F s ho (.inl hcc) hx ht hu e
    ·cases hc
   ·rename_i x ty hx ht
    split at hc
    ·rename_i el hu;cases hc;exact Yq1 F s ho hcc hx ht hu e
    ·rename_i k el hu;cases hc;exact Yjw F s ho (.inr hcc) hx ht hu e
    ·cases hc
   ·rename_i x y ty ty2 hx ht
    split at hc
    ·rename_i el hu heq
     have:ty=ty2:=by simpa using heq
     subst this
     simp only[Option.bind_eq_bind,Option.bind_eq_some_iff] at hc
     obtain⟨i,hi,z,hz,h1⟩:=hc
     split at h1
     ·rename_i hk
      cases h1
      exact Yd7 F s hgf hf ho hcc hx ht (.inl ⟨el,hu⟩) hu hi hz hk.1.1 hk.1.2 hk.2.2 hk.2.1 e
     ·cases h1
    ·rename_i el hu heq
     split at hc
     ·rename_i k0 hu2
      simp only[Option.bind_eq_bind,Option.bind_eq_some_iff] at hc
      obtain⟨i,hi,z,hz,h1⟩:=hc
      split at h1
      ·rename_i hk
       cases h1
       exact Yq8 F s hgf hf ho hcc hx ht hu hu2 hi hz hk.1.1 hk.1.2 hk.2.2.1 hk.2.1 hk.2.2.2 e
      ·cases h1
     ·rename_i hu2
      simp only[Option.bind_eq_bind,Option.bind_eq_some_iff] at hc
      obtain⟨i,hi,z,hz,h1⟩:=hc
      split at h1
      ·rename_i hk
       cases h1
       exact Yd7 F s hgf hf ho hcc hx ht (.inr hu2) hu hi hz hk.1.1 hk.1.2 hk.2.2 hk.2.1 e
      ·cases h1
     ·rename_i e2 hu2
      simp only[Option.bind_eq_bind,Option.bind_eq_some_iff] at hc
      obtain⟨i,hi,z,hz,h1⟩:=hc
      split at h1
      ·rename_i hk
       cases h1
       exact Yd7 F s hgf hf ho hcc hx ht (.inl ⟨e2,hu2⟩) hu hi hz hk.1.1 hk.1.2 hk.2.2 hk.2.1 e
      ·cases h1
     ·cases hc
    ·cases hc
   ·rename_i x y ty ty2 hx ht
    split at hc
    ·rename_i el _ hu _
     simp only[Option.bind_eq_bind,Option.bind_eq_some_iff] at hc
     obtain⟨sz,hs,h1⟩:=hc
     split at h1
     ·rename_i h0
      cases h1
      exact Yqy F s hgf hf ho hcc hx ht hu hs h0 e
     ·cases h1
    ·cases hc
   ·rename_i x ty hx ht
    split at hc
    ·rename_i el hu
     simp only[Option.bind_eq_bind,Option.bind_eq_some_iff] at hc
     obtain⟨i,hi,z,hz,h1⟩:=hc
     split at h1
     ·rename_i hk
      cases h1
      exact Yq0 F s hgf hf ho hcc hx ht hu hi hz hk.1 hk.2.1 hk.2.2 e
     ·cases h1
    ·cases hc
   ·rename_i x y hx;cases hc;exact Yju F s ho (.inl ⟨hcc,rfl⟩) hx e
   ·rename_i x y hx;cases hc;exact Yju F s ho (.inr ⟨hcc,rfl⟩) hx e
   ·cases hc
 | makeMap ty r=>
  rw[ho] at hc
  simp only[Zaz] at hc
  split at hc
  ·rename_i kt el ht hr
   cases hc
   exact Yql s hf ho ht hr e
  ·cases hc
 | insert ty mo ko xo=>
  rw[ho] at hc
  simp only[Zaz] at hc
  split at hc
  ·rename_i kt el ht
   simp only[Option.bind_eq_bind,Option.bind_eq_some_iff] at hc
   obtain⟨q,hq,h1⟩:=hc
   cases h1
   exact Yjv F s hgf (.inl ho) ht hq e
  ·cases hc
 | mapUpdate ty mo ko xo=>
  rw[ho] at hc
  simp only[Zaz] at hc
  split at hc
  ·rename_i kt el ht
   simp only[Option.bind_eq_bind,Option.bind_eq_some_iff] at hc
   obtain⟨q,hq,h1⟩:=hc
   cases h1
   exact Yjv F s hgf (.inr ho) ht hq e
  ·cases hc
 | lookup ty mo ko two=>
  rw[ho] at hc
  simp only[Zaz] at hc
  split at hc
  ·rename_i kt el ht
   simp only[Option.bind_eq_bind,Option.bind_eq_some_iff] at hc
   obtain⟨z,hz,q,hq,h1⟩:=hc
   cases h1
   exact Yqk F s hgf ho ht hz hq e
  ·cases hc
 | _=>rw[ho] at hc;cases hc
end Go.Rn
