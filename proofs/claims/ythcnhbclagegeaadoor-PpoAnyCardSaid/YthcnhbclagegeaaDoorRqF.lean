/-
  One text of a symbolic evaluator Zfe the model, shown sound once for every program: no statement is claimed here.
-/
import Derived.Test.YthcnhbclagegeaaDoorRqC
namespace Go.Rn
attribute [local irreducible] Zla CT9
section
variable {v:RV} {y n s k0:A}
theorem Zmd {k:Bool->A} (h:Good (cB v k)):∃ x,v=.b x/\Good (k x):=by cases v <;> first | exact ⟨_,rfl,h⟩ | exact Good.no h
theorem Yih {k:IntKind->Int->A} (h:Good (cI v k)):∃ j z,v=.i j z/\Good (k j z):=by cases v <;> first | exact ⟨_,_,rfl,h⟩ | exact Good.no h
theorem Ybe {k:List Nat->A} (h:Good (cS v k)):∃ x,v=.s x/\Good (k x):=by cases v <;> first | exact ⟨_,rfl,h⟩ | exact Good.no h
theorem Zoq {k:Nat->Nat->A} (h:Good (cP v k)):∃ b o,v=.p b o/\Good (k b o):=by cases v <;> first | exact ⟨_,_,rfl,h⟩ | exact Good.no h
theorem Zt0 {k:Nat->RV->A} (h:Good (cF v k)):∃ f c,v=.fn f c/\Good (k f c):=by cases v <;> first | exact ⟨_,_,rfl,h⟩ | exact Good.no h
theorem Zwh {k:RV->A} (h:Good (cA v k)):∃ c,v=.agg c/\Good (k c):=by cases v <;> first | exact ⟨_,rfl,h⟩ | exact Good.no h
theorem Xa5 {k:RV->A} (h:Good (cT v k)):∃ c,v=.tup c/\Good (k c):=by cases v <;> first | exact ⟨_,rfl,h⟩ | exact Good.no h
theorem Zf7 {k:RV->RV->A} (h:Good (cN v k)):∃ a r,v=.cons a r/\Good (k a r):=by cases v <;> first | exact ⟨_,_,rfl,h⟩ | exact Good.no h
theorem Zeb {k:RV->RV->A} (h:Good (cNn v k0 k)):(v=.nil/\Good k0) ∨ ∃ a r,v=.cons a r/\Good (k a r):=by cases v <;> first | exact .inr ⟨_,_,rfl,h⟩ | exact .inl ⟨rfl,h⟩ | exact Good.no h
theorem Zfd (h:Good (cU v y)):v ≠ .un/\Good y:=by cases v <;> first | exact ⟨by simp,h⟩ | exact Good.no h
theorem Zcs {k:RV->A} (h:Good (cUv v k)):v ≠ .un/\Good (k v):=by cases v <;> first | exact ⟨by simp,h⟩ | exact Good.no h
theorem Zqi {k1 k2:Nat->Nat->Nat->Nat->A} {k3:Nat->Nat->A} (h:Good (cL v k0 k1 k2 k3)):(v=.ns/\Good k0) ∨ (∃ b o l c,v=.sl b o l c/\Good (k1 b o l c)) ∨ (∃ b o l e,v=.su b o l e/\Good (k2 b o l e)) ∨ (∃ b e,v=.sx b e/\Good (k3 b e)):=by
 cases v <;> first | exact .inl ⟨rfl,h⟩ | exact .inr (.inl ⟨_,_,_,_,rfl,h⟩) | exact .inr (.inr (.inl ⟨_,_,_,_,rfl,h⟩)) | exact .inr (.inr (.inr ⟨_,_,rfl,h⟩)) | exact Good.no h
theorem Yii {k:RV->A} (h:Good (cC v k y)):(∃ c,v=.agg c/\Good (k c)) ∨ ((∀ {α:Type} (d:α) (f:RV->α),gC d v f=f (.cons v .nil))/\v ≠ .un/\Good y):=by
 cases v <;> first | exact .inl ⟨_,rfl,h⟩ | exact .inr ⟨fun _ _=>rfl,by simp,h⟩ | exact Good.no h
theorem Zaw {c:Bool} (h:Good (ifA c y n)):(c=true/\Good y) ∨ (c=false/\Good n):=by cases c <;> first | exact .inl ⟨rfl,h⟩ | exact .inr ⟨rfl,h⟩
theorem Za2 {c:Bool} (h:Good (ifA c y .no)):c=true/\Good y:=by cases c <;> first | exact ⟨rfl,h⟩ | exact Good.no h
theorem Yvp (h:Good (cNc v y)):((∃ b o,v=.p b o) ∨ ∃ f c,v=.fn f c/\(Nat.ble 33554432 f=true->∃ a r,c=.cons a r))/\Good y:=by
 cases v <;> first | exact ⟨.inl ⟨_,_,rfl⟩,h⟩ | exact Good.no h | skip
 rename_i f c
 rcases Zaw (show Good (ifA (Nat.ble 33554432 f) (cN c fun _ _=>y) y) from h) with ⟨_,h1⟩ | ⟨e,h1⟩
 ·obtain ⟨a,r,e,h2⟩:=Zf7 h1
  exact ⟨.inr ⟨f,c,rfl,fun _=>⟨a,r,e⟩⟩,h2⟩
 ·exact ⟨.inr ⟨f,c,rfl,fun q=>by rw [e] at q; cases q⟩,h1⟩
theorem Zyz {k:Nat->Bool->A} (h:Good (Yyh v k)):∃ q a,Zk3 v=some (q,a)/\Good (k q a):=by
 cases v <;> first | exact ⟨_,_,rfl,h⟩ | exact Good.no h | skip
 rename_i f c
 rcases Zaw (show Good (ifA (Nat.ble 33554432 f) (cNn c (k 3 true) fun x r=>cNn x (cNn r .no fun _ q=>cNn q (k 3 false) fun _ _=>.no) fun _ _=>.no) (k 2 false)) from h) with ⟨e,h1⟩ | ⟨e,h1⟩
 ·rcases Zeb h1 with ⟨rfl,h2⟩ | ⟨x,r,rfl,h2⟩
  ·refine ⟨3,true,?_,h2⟩
   show bf (Nat.ble 33554432 f) (some (3,true)) (some (2,false))=_
   rw [e]; rfl
  ·rcases Zeb h2 with ⟨rfl,h3⟩ | ⟨_,_,_,h3⟩
   ·rcases Zeb h3 with ⟨_,h4⟩ | ⟨y,q,rfl,h4⟩
    ·exact Good.no h4
    ·rcases Zeb h4 with ⟨rfl,h5⟩ | ⟨_,_,_,h5⟩
     ·refine ⟨3,false,?_,h5⟩
      show bf (Nat.ble 33554432 f) (some (3,false)) (some (2,false))=_
      rw [e]; rfl
     ·exact Good.no h5
   ·exact Good.no h3
 ·refine ⟨2,false,?_,h1⟩
  show bf (Nat.ble 33554432 f) _ (some (2,false))=_
  rw [e]; rfl
theorem Yhj {z:A} {k:Nat->RV->A} (h:Good (cIf v z k)):∃ f,Nat.ble 33554432 f=true/\((v=.fn f .nil/\Good z) ∨ ∃ x,v=.fn f (.cons .nil (.cons x .nil))/\Good (k f x)):=by
 unfold cIf at h
 obtain ⟨f,c,rfl,h1⟩:=Zt0 h
 obtain ⟨hb,h2⟩:=Za2 h1
 refine ⟨f,hb,?_⟩
 rcases Zeb h2 with ⟨rfl,h3⟩ | ⟨y,r,rfl,h3⟩
 ·exact .inl ⟨rfl,h3⟩
 ·rcases Zeb h3 with ⟨rfl,h4⟩ | ⟨_,_,_,h4⟩
  ·obtain ⟨x,q,rfl,h5⟩:=Zf7 h4
   rcases Zeb h5 with ⟨rfl,h6⟩ | ⟨_,_,_,h6⟩
   ·exact .inr ⟨x,rfl,h6⟩
   ·exact Good.no h6
  ·exact Good.no h4
theorem Yoj {d z:SR} {k:Nat->RV->SR} {f:Nat} (hf:Nat.ble 33554432 f=true):gIf d (.fn f .nil) z k=z:=by
 show bf (Nat.ble 33554432 f) z d=z
 rw [hf]; rfl
theorem Zw4 {d z:SR} {k:Nat->RV->SR} {f:Nat} {x:RV} (hf:Nat.ble 33554432 f=true):gIf d (.fn f (.cons .nil (.cons x .nil))) z k=k f x:=by
 show bf (Nat.ble 33554432 f) (k f x) d=k f x
 rw [hf]; rfl
theorem Xa6 {w:Bool} (h:Good (cG v w y n)):(∃ x,v=.b x/\eqB x w=true/\Good y) ∨ (∃ x,v=.b x/\eqB x w=false/\Good n) ∨ (v=.ud/\Good n):=by
 cases v <;> first | exact .inr (.inr ⟨rfl,h⟩) | exact Good.no h | skip
 rcases Zaw (show Good (ifA _ y n) from h) with ⟨a,b⟩ | ⟨a,b⟩
 ·exact .inl ⟨_,rfl,a,b⟩
 ·exact .inr (.inl ⟨_,rfl,a,b⟩)
theorem Xa4 {k:IntKind->SE->A} {ki:IntKind->Int->A} (h:Good (cY v k ki)):(∃ j z,v=.i j z/\Good (ki j z)) ∨ ∃ j e,v=.y j e/\Good (k j e):=by cases v <;> first | exact .inl ⟨_,_,rfl,h⟩ | exact .inr ⟨_,_,rfl,h⟩ | exact Good.no h
theorem Ysb {z:Int} {k:Nat->A} (h:Good (iN z k s)):(∃ m,z=.ofNat m/\Good (k m)) ∨ Good s:=by cases z <;> first | exact .inl ⟨_,rfl,h⟩ | exact .inr h
theorem Zf8 {ki ku:Nat->A} (h:Good (cM v ki ku s)):(∃ m,v=.i .i64 (.ofNat m)/\Good (ki m)) ∨ (∃ m,v=.i .u64 (.ofNat m)/\Good (ku m)) ∨ Good s:=by
 cases v <;> first | exact .inr (.inr h) | skip
 rename_i j z
 rcases Ysb (show Good (iN z _ s) from h) with ⟨m,rfl,h1⟩ | h1
 ·cases j <;> first | exact .inl ⟨_,rfl,h1⟩ | exact .inr (.inl ⟨_,rfl,h1⟩) | exact .inr (.inr h1)
 ·exact .inr (.inr h1)
theorem Zwg {k:Nat->A} (h:Good (cK v k)):∃ j m,v=.i j (.ofNat m)/\Good (k m):=by
 cases v <;> first | exact Good.no h | skip
 rename_i j z
 rcases Ysb (show Good (iN z k .no) from h) with ⟨m,rfl,h1⟩ | h1
 ·exact ⟨_,_,rfl,h1⟩
 ·exact Good.no h1
theorem Zat {r:Nat} {k:Nat->A} (h:Good (frc r k)):Good (k r):=by cases r <;> exact h
theorem Zxa {o:Option Nat} {k:Nat->A} (h:Good (cON o k)):∃ x,o=some x/\Good (k x):=by cases o <;> first | exact ⟨_,rfl,h⟩ | exact Good.no h
theorem Yvn {o:Option RV} {k:RV->A} (h:Good (cOV o n k)):(o=none/\Good n) ∨ ∃ x,o=some x/\Good (k x):=by cases o <;> first | exact .inr ⟨_,rfl,h⟩ | exact .inl ⟨rfl,h⟩
theorem Zez {b:Bool} {k:RV->A} (h:Good (Yah b k)):Good (k (mkB b)):=by cases b <;> exact h
theorem Zdz {k:Nat->A} (h:Good (Ztp v k)):∃ l,Za5 v=some l/\Good (k l):=by cases v <;> first | exact ⟨_,rfl,h⟩ | exact Good.no h
end
/-! trees -/
def PK:Pq->Nat->Prop
 | .z,k=>k=0
 | .a p,k=>∃ j,k=4 * j + 1/\PK p j
 | .b p,k=>∃ j,k=4 * j + 2/\PK p j
 | .c p,k=>∃ j,k=4 * j + 3/\PK p j
 | .d p,k=>∃ j,k=4 * j + 4/\PK p j
 | .e,_=>True
theorem Yol {p:Pq} {j q:Nat} (h:PK p (q / 4)) (hj:j=q % 4):PK (Yse j p) (q + 1):=by
 match j,hj with
 | 0,hj=>exact ⟨q / 4,by omega,h⟩
 | 1,hj=>exact ⟨q / 4,by omega,h⟩
 | 2,hj=>exact ⟨q / 4,by omega,h⟩
 | 3,hj=>exact ⟨q / 4,by omega,h⟩
 | j + 4,hj=>omega
theorem Zj7:∀ f k,PK (Ztq f k) k
 | 0,0=>rfl
 | 0,_ + 1=>trivial
 | _ + 1,0=>rfl
 | f + 1,q + 1=>Yol (p:=Ztq f (q / 4)) (Zj7 f (q / 4)) rfl
def Zdt (X T:Type) (get:Pq->T->(X->A)->A) (R:T->(Nat->X)->Prop) (bd:Nat):Prop:=∀ p k t f c,PK p k->R t f->Good (get p t c)->k < bd/\Good (c (f k))
def Zds (X T:Type) (upd:Pq->T->(X->(X->A)->A)->(T->A)->A) (R:T->(Nat->X)->Prop) (bd:Nat):Prop:=
 ∀ p k t f u c,PK p k->R t f->Good (upd p t u c)->k < bd/\∃ g:X->A,Good (u (f k) g)/\∀ x,Good (g x)->∃ t',R t' (fun j=>if j=k then x else f j)/\Good (c t')
def Zk0 (X T:Type) (R:T->(Nat->X)->Prop) (t:Nd X T) (f:Nat->X):Prop:=
 ∃ a b c d,t=(fun s=>s (f 0) a b c d)/\R a (fun j=>f (4 * j + 1))/\R b (fun j=>f (4 * j + 2))/\R c (fun j=>f (4 * j + 3))/\R d (fun j=>f (4 * j + 4))
theorem Zbp {X T:Type} {ih:Pq->T->(X->A)->A} {R:T->(Nat->X)->Prop} {bd:Nat} (hi:Zdt X T ih R bd):Zdt X (Nd X T) (stG X T ih) (Zk0 X T R) (4 * bd + 1):=by
 rintro p k t f c hp ⟨a,b,c',d,rfl,ra,rb,rc,rd⟩ h
 cases p with
 | z=>have:k=0:=hp; subst this; exact ⟨by omega,h⟩
 | a q=>obtain ⟨j,rfl,hq⟩:=hp; obtain ⟨h1,h2⟩:=hi q j a _ c hq ra h; exact ⟨by omega,h2⟩
 | b q=>obtain ⟨j,rfl,hq⟩:=hp; obtain ⟨h1,h2⟩:=hi q j b _ c hq rb h; exact ⟨by omega,h2⟩
 | c q=>obtain ⟨j,rfl,hq⟩:=hp; obtain ⟨h1,h2⟩:=hi q j c' _ c hq rc h; exact ⟨by omega,h2⟩
 | d q=>obtain ⟨j,rfl,hq⟩:=hp; obtain ⟨h1,h2⟩:=hi q j d _ c hq rd h; exact ⟨by omega,h2⟩
 | e=>exact Good.no h
theorem Zr4 {X:Type} {f:Nat->X} {x:X} {i j:Nat}:(fun q=>if q=j then x else f (4 * q + i))=(fun q=>if 4 * q + i=4 * j + i then x else f (4 * q + i)):=by
 funext q
 by_cases h:q=j
 ·rw [if_pos h,if_pos (by omega)]
 ·rw [if_neg h,if_neg (by omega)]
theorem Zcb {X:Type} {f:Nat->X} {x:X} {i k:Nat} (h:∀ q,4 * q + i ≠ k):(fun q=>f (4 * q + i))=(fun q=>if 4 * q + i=k then x else f (4 * q + i)):=by
 funext q
 rw [if_neg (h q)]
theorem Zbo {X T:Type} {ih:Pq->T->(X->(X->A)->A)->(T->A)->A} {R:T->(Nat->X)->Prop} {bd:Nat} (hi:Zds X T ih R bd):Zds X (Nd X T) (stS X T ih) (Zk0 X T R) (4 * bd + 1):=by
 rintro p k t f u c hp ⟨a,b,c',d,rfl,ra,rb,rc,rd⟩ h
 cases p with
 | z=>
  have:k=0:=hp
  subst this
  exact ⟨by omega,_,h,fun x hx=>⟨_,⟨a,b,c',d,rfl,by rw [<- Zcb (by omega)]; exact ra,by rw [<- Zcb (by omega)]; exact rb,by rw [<- Zcb (by omega)]; exact rc,by rw [<- Zcb (by omega)]; exact rd⟩,hx⟩⟩
 | a q=>
  obtain ⟨j,rfl,hq⟩:=hp
  obtain ⟨h1,g,h2,h3⟩:=hi q j a _ u _ hq ra h
  refine ⟨by omega,g,h2,fun x hx=>?_⟩
  obtain ⟨t',r',h4⟩:=h3 x hx
  exact ⟨_,⟨t',b,c',d,by simp,by rw [<- Zr4]; exact r',by rw [<- Zcb (by omega)]; exact rb,by rw [<- Zcb (by omega)]; exact rc,by rw [<- Zcb (by omega)]; exact rd⟩,h4⟩
 | b q=>
  obtain ⟨j,rfl,hq⟩:=hp
  obtain ⟨h1,g,h2,h3⟩:=hi q j b _ u _ hq rb h
  refine ⟨by omega,g,h2,fun x hx=>?_⟩
  obtain ⟨t',r',h4⟩:=h3 x hx
  exact ⟨_,⟨a,t',c',d,by simp,by rw [<- Zcb (by omega)]; exact ra,by rw [<- Zr4]; exact r',by rw [<- Zcb (by omega)]; exact rc,by rw [<- Zcb (by omega)]; exact rd⟩,h4⟩
 | c q=>
  obtain ⟨j,rfl,hq⟩:=hp
  obtain ⟨h1,g,h2,h3⟩:=hi q j c' _ u _ hq rc h
  refine ⟨by omega,g,h2,fun x hx=>?_⟩
  obtain ⟨t',r',h4⟩:=h3 x hx
  exact ⟨_,⟨a,b,t',d,by simp,by rw [<- Zcb (by omega)]; exact ra,by rw [<- Zcb (by omega)]; exact rb,by rw [<- Zr4]; exact r',by rw [<- Zcb (by omega)]; exact rd⟩,h4⟩
 | d q=>
  obtain ⟨j,rfl,hq⟩:=hp
  obtain ⟨h1,g,h2,h3⟩:=hi q j d _ u _ hq rd h
  refine ⟨by omega,g,h2,fun x hx=>?_⟩
  obtain ⟨t',r',h4⟩:=h3 x hx
  exact ⟨_,⟨a,b,c',t',by simp,by rw [<- Zcb (by omega)]; exact ra,by rw [<- Zcb (by omega)]; exact rb,by rw [<- Zcb (by omega)]; exact rc,by rw [<- Zr4]; exact r'⟩,h4⟩
 | e=>exact Good.no h
end Go.Rn
namespace Go.Rn
section
def Ybz (_:CT0) (_:Nat->RV):Prop:=True
theorem Yez:Zdt RV CT0 Zwd Ybz 0:=fun _ _ _ _ _ _ _ h=>Good.no h
theorem Ycm:Zds RV CT0 Zvj Ybz 0:=fun _ _ _ _ _ _ _ _ h=>Good.no h
theorem Znh:Ybz Yqs (fun _=>.un):=trivial
def Yby (t:CT1) (f:Nat->RV):Prop:=Zk0 RV CT0 Ybz t f
theorem Yey:Zdt RV CT1 Zwc Yby 1:=Zbp Yez
theorem Ycl:Zds RV CT1 Zvi Yby 1:=Zbo Ycm
theorem Zng:Yby Yqr (fun _=>.un):=⟨_,_,_,_,rfl,Znh,Znh,Znh,Znh⟩
def Ybx (t:CT2) (f:Nat->RV):Prop:=Zk0 RV CT1 Yby t f
theorem Yex:Zdt RV CT2 Zwb Ybx 5:=Zbp Yey
theorem Yck:Zds RV CT2 Zvh Ybx 5:=Zbo Ycl
theorem Znf:Ybx Yqq (fun _=>.un):=⟨_,_,_,_,rfl,Zng,Zng,Zng,Zng⟩
def Ybw (t:CT3) (f:Nat->RV):Prop:=Zk0 RV CT2 Ybx t f
theorem Yew:Zdt RV CT3 Zwa Ybw 21:=Zbp Yex
theorem Ycj:Zds RV CT3 Zvg Ybw 21:=Zbo Yck
theorem Zne:Ybw Yqp (fun _=>.un):=⟨_,_,_,_,rfl,Znf,Znf,Znf,Znf⟩
def Ybv (t:CT4) (f:Nat->RV):Prop:=Zk0 RV CT3 Ybw t f
theorem Yev:Zdt RV CT4 Zv9 Ybv 85:=Zbp Yew
theorem Yci:Zds RV CT4 Zvf Ybv 85:=Zbo Ycj
theorem Znd:Ybv Yqo (fun _=>.un):=⟨_,_,_,_,rfl,Zne,Zne,Zne,Zne⟩
def Ybu (t:CT5) (f:Nat->RV):Prop:=Zk0 RV CT4 Ybv t f
theorem Yeu:Zdt RV CT5 Zv8 Ybu 341:=Zbp Yev
theorem Ych:Zds RV CT5 Zve Ybu 341:=Zbo Yci
theorem Znc:Ybu Yqn (fun _=>.un):=⟨_,_,_,_,rfl,Znd,Znd,Znd,Znd⟩
def Ybt (t:CT6) (f:Nat->RV):Prop:=Zk0 RV CT5 Ybu t f
theorem Yet:Zdt RV CT6 Zv7 Ybt 1365:=Zbp Yeu
theorem Ycg:Zds RV CT6 Zvd Ybt 1365:=Zbo Ych
theorem Znb:Ybt Yqm (fun _=>.un):=⟨_,_,_,_,rfl,Znc,Znc,Znc,Znc⟩
def Ybs (t:CT7) (f:Nat->RV):Prop:=Zk0 RV CT6 Ybt t f
theorem Yes:Zdt RV CT7 Zv6 Ybs 5461:=Zbp Yet
theorem Ycf:Zds RV CT7 Zvc Ybs 5461:=Zbo Ycg
theorem Zna:Ybs Yql (fun _=>.un):=⟨_,_,_,_,rfl,Znb,Znb,Znb,Znb⟩
def Ybr (t:CT8) (f:Nat->RV):Prop:=Zk0 RV CT7 Ybs t f
theorem Yer:Zdt RV CT8 Zv5 Ybr 21845:=Zbp Yes
theorem Yce:Zds RV CT8 Zvb Ybr 21845:=Zbo Ycf
theorem Zm9:Ybr Yqk (fun _=>.un):=⟨_,_,_,_,rfl,Zna,Zna,Zna,Zna⟩
def Zix (t:CT9) (f:Nat->RV):Prop:=Zk0 RV CT8 Ybr t f
theorem Yeq:Zdt RV CT9 Ysc Zix 87381:=Zbp Yer
theorem Ycd:Zds RV CT9 Yq4 Zix 87381:=Zbo Yce
theorem Yot:Zix Xhk (fun _=>.un):=⟨_,_,_,_,rfl,Zm9,Zm9,Zm9,Zm9⟩
def Ybq (_:HT0) (_:Nat->B3):Prop:=True
theorem Yep:Zdt B3 HT0 Zv4 Ybq 0:=fun _ _ _ _ _ _ _ h=>Good.no h
theorem Ycc:Zds B3 HT0 Zva Ybq 0:=fun _ _ _ _ _ _ _ _ h=>Good.no h
theorem Zm8:Ybq Yqj (fun _=>noB):=trivial
def Ybp (t:HT1) (f:Nat->B3):Prop:=Zk0 B3 HT0 Ybq t f
theorem Yeo:Zdt B3 HT1 Zv3 Ybp 1:=Zbp Yep
theorem Ycb:Zds B3 HT1 Zu9 Ybp 1:=Zbo Ycc
theorem Zm7:Ybp Yqi (fun _=>noB):=⟨_,_,_,_,rfl,Zm8,Zm8,Zm8,Zm8⟩
def Ybo (t:HT2) (f:Nat->B3):Prop:=Zk0 B3 HT1 Ybp t f
theorem Yen:Zdt B3 HT2 Zv2 Ybo 5:=Zbp Yeo
theorem Yca:Zds B3 HT2 Zu8 Ybo 5:=Zbo Ycb
theorem Zm6:Ybo Yqh (fun _=>noB):=⟨_,_,_,_,rfl,Zm7,Zm7,Zm7,Zm7⟩
def Ybn (t:HT3) (f:Nat->B3):Prop:=Zk0 B3 HT2 Ybo t f
theorem Yem:Zdt B3 HT3 Zv1 Ybn 21:=Zbp Yen
theorem Yb9:Zds B3 HT3 Zu7 Ybn 21:=Zbo Yca
theorem Zm5:Ybn Yqg (fun _=>noB):=⟨_,_,_,_,rfl,Zm6,Zm6,Zm6,Zm6⟩
def Ybm (t:HT4) (f:Nat->B3):Prop:=Zk0 B3 HT3 Ybn t f
theorem Yel:Zdt B3 HT4 Zv0 Ybm 85:=Zbp Yem
theorem Yb8:Zds B3 HT4 Zu6 Ybm 85:=Zbo Yb9
theorem Zm4:Ybm Yqf (fun _=>noB):=⟨_,_,_,_,rfl,Zm5,Zm5,Zm5,Zm5⟩
def Ybl (t:HT5) (f:Nat->B3):Prop:=Zk0 B3 HT4 Ybm t f
theorem Yek:Zdt B3 HT5 Zvz Ybl 341:=Zbp Yel
theorem Yb7:Zds B3 HT5 Zu5 Ybl 341:=Zbo Yb8
theorem Zm3:Ybl Yqe (fun _=>noB):=⟨_,_,_,_,rfl,Zm4,Zm4,Zm4,Zm4⟩
def Ybk (t:HT6) (f:Nat->B3):Prop:=Zk0 B3 HT5 Ybl t f
theorem Yej:Zdt B3 HT6 Zvy Ybk 1365:=Zbp Yek
theorem Yb6:Zds B3 HT6 Zu4 Ybk 1365:=Zbo Yb7
theorem Zm2:Ybk Yqd (fun _=>noB):=⟨_,_,_,_,rfl,Zm3,Zm3,Zm3,Zm3⟩
def Ybj (t:HT7) (f:Nat->B3):Prop:=Zk0 B3 HT6 Ybk t f
theorem Yei:Zdt B3 HT7 Zvx Ybj 5461:=Zbp Yej
theorem Yb5:Zds B3 HT7 Zu3 Ybj 5461:=Zbo Yb6
theorem Zm1:Ybj Yqc (fun _=>noB):=⟨_,_,_,_,rfl,Zm2,Zm2,Zm2,Zm2⟩
def Ybi (t:HT8) (f:Nat->B3):Prop:=Zk0 B3 HT7 Ybj t f
theorem Yeh:Zdt B3 HT8 Zvw Ybi 21845:=Zbp Yei
theorem Yb4:Zds B3 HT8 Zu2 Ybi 21845:=Zbo Yb5
theorem Zm0:Ybi Yqb (fun _=>noB):=⟨_,_,_,_,rfl,Zm1,Zm1,Zm1,Zm1⟩
def Ybh (t:HT9) (f:Nat->B3):Prop:=Zk0 B3 HT8 Ybi t f
theorem Yeg:Zdt B3 HT9 Zvv Ybh 87381:=Zbp Yeh
theorem Yb3:Zds B3 HT9 Zu1 Ybh 87381:=Zbo Yb4
theorem Zmz:Ybh Yqa (fun _=>noB):=⟨_,_,_,_,rfl,Zm0,Zm0,Zm0,Zm0⟩
def Zfh (t:Zla) (f:Nat->B3):Prop:=Zk0 B3 HT9 Ybh t f
theorem Zzz:Zdt B3 Zla Yg5 Zfh 349525:=Zbp Yeg
theorem Zy5:Zds B3 Zla Yf1 Zfh 349525:=Zbo Yb3
theorem Ye5:Zfh Ysj (fun _=>noB):=⟨_,_,_,_,rfl,Zmz,Zmz,Zmz,Zmz⟩
end
attribute [local irreducible] Zla CT9 Zix Zfh
/-! cells -/
def Zk1 (c3:C3) (c:CT):Prop:=Zix c3 fun k=>cg c k
theorem Yhc {c:CT} {x:RV} {k:Nat} (hk:k < 87381) (j:Nat):cg (cst c x k) j=if j=k then x else cg c j:=by
 by_cases h:j=k
 ·rw [if_pos h,h]
  exact Zeu .un c x (k + 1) (by omega) (by omega)
 ·rw [if_neg h]
  rcases Zmw (.un:RV) c x (k + 1) (j + 1) with ⟨h1,_⟩ | ⟨_,h1⟩
  ·omega
  ·exact h1
theorem Ze0 {c3:C3} {c:CT} {o:Nat} {k:RV->A} (r:Zk1 c3 c) (h:Good (Zp7 c3 o k)):Good (k (cg c o)):=(Yeq _ o c3 (fun k=>cg c k) k (Zj7 12 o) r h).2
theorem Zei {c3:C3} {c:CT} {o:Nat} {u:RV->(RV->A)->A} {k:C3->A} (r:Zk1 c3 c) (h:Good (Zk9 c3 o u k)) :
  o < 87381/\∃ g,Good (u (cg c o) g)/\∀ x,Good (g x)->∃ c3',Zk1 c3' (cst c x o)/\Good (k c3'):=by
 obtain ⟨h1,g,h2,h3⟩:=Ycd _ o c3 (fun k=>cg c k) u k (Zj7 12 o) r h
 refine ⟨h1,g,h2,fun x hx=>?_⟩
 obtain ⟨t',r',h4⟩:=h3 x hx
 refine ⟨t',?_,h4⟩
 show Zix t' fun j=>cg (cst c x o) j
 rw [show (fun j=>cg (cst c x o) j)=fun j=>if j=o then x else cg c j from funext (Yhc h1)]
 exact r'
theorem Zll:Zk1 ce3 ce:=Yot
/-! blocks -/
def Ypy (b3:B3):RB->Prop
 | .no=>b3=noB
 | .bk c z=>(z ≠ Zas/\∃ c3,b3=bkB c3 z/\Zk1 c3 c) ∨ (z=Zas/\∃ c3,b3=mpB c3/\Zk1 c3 c)
def Zbw (h3:H3) (h:HT):Prop:=∃ f,Zfh h3 f/\∀ b,Ypy (f b) (hg h b)
theorem Yue:Zbw he3 he:=⟨_,Ye5,fun _=>rfl⟩
theorem Yud {h:HT} {x:RB} {k:Nat} (hk:k < 349525) (j:Nat):hg (hst h x k) j=if j=k then x else hg h j:=by
 by_cases e:j=k
 ·rw [if_pos e,e]
  exact Zeu .no h x (k + 1) (by omega) (by omega)
 ·rw [if_neg e]
  rcases Zmw (.no:RB) h x (k + 1) (j + 1) with ⟨h1,_⟩ | ⟨_,h1⟩
  ·omega
  ·exact h1
theorem Zj9 {h3:H3} {h:HT} {b:Nat} {k:B3->A} (r:Zbw h3 h) (e:Good (Zjh h3 b k)):∃ b3,Ypy b3 (hg h b)/\b < 349525/\Good (k b3):=by
 obtain ⟨f,r1,r2⟩:=r
 obtain ⟨h1,h2⟩:=Zzz _ b h3 f k (Zj7 12 b) r1 e
 exact ⟨f b,r2 b,h1,h2⟩
theorem Yxj {b3:B3} {rb:RB} {k:C3->Nat->A} (r:Ypy b3 rb) (h:Good (b3 .no noM k)):∃ c z c3,rb=.bk c z/\Zk1 c3 c/\Good (k c3 z)/\z ≠ Zas:=by
 cases rb with
 | no=>have:b3=noB:=r; subst this; exact Good.no h
 | bk c z=>
  rcases r with ⟨hz,c3,rfl,rc⟩ | ⟨_,c3,rfl,_⟩
  ·exact ⟨c,z,c3,rfl,rc,h,hz⟩
  ·exact Good.no h
theorem Yqx {b3:B3} {rb:RB} {k:C3->A} (r:Ypy b3 rb) (h:Good (b3 .no k (fun _ _=>.no))):∃ c c3,rb=.bk c Zas/\Zk1 c3 c/\Good (k c3):=by
 cases rb with
 | no=>have:b3=noB:=r; subst this; exact Good.no h
 | bk c z=>
  rcases r with ⟨_,c3,rfl,_⟩ | ⟨rfl,c3,rfl,rc⟩
  ·exact Good.no h
  ·exact ⟨c,c3,rfl,rc,h⟩
theorem Zma {α:Type} {d:α} {c:CT} {z:Nat} {k:CT->Nat->α} (hz:z ≠ Zas):gK d (.bk c z) k=k c z:=by
 have h:Nat.beq z Zas=false:=by
  cases hq:Nat.beq z Zas with
  | false=>rfl
  | true=>exact absurd (Nat.eq_of_beq_eq_true hq) hz
 show bf (Nat.beq z Zas) d (k c z)=_
 rw [h]; rfl
theorem Zky {α:Type} (y n:α):bf true y n=y:=rfl
theorem Zqe {h3:H3} {h:HT} {b:Nat} {k:C3->Nat->A} (r:Zbw h3 h) (e:Good (Zjh h3 b fun bk=>bk .no noM k)):∃ c z c3,hg h b=.bk c z/\Zk1 c3 c/\b < 349525/\Good (k c3 z)/\z ≠ Zas:=by
 obtain ⟨b3,r1,h0,h1⟩:=Zj9 r e
 obtain ⟨c,z,c3,h2,h3,h4,hz⟩:=Yxj r1 h1
 exact ⟨c,z,c3,h2,h3,h0,h4,hz⟩
theorem Zeh {h3:H3} {h:HT} {b:Nat} {u:B3->(B3->A)->A} {k:H3->A} (r:Zbw h3 h) (e:Good (Zuy h3 b u k)) :
  b < 349525/\∃ b3 g,Ypy b3 (hg h b)/\Good (u b3 g)/\∀ x rb,Ypy x rb->Good (g x)->∃ h3',Zbw h3' (hst h rb b)/\Good (k h3'):=by
 obtain ⟨f,r1,r2⟩:=r
 obtain ⟨h1,g,h2,h3⟩:=Zy5 _ b h3 f u k (Zj7 12 b) r1 e
 refine ⟨h1,f b,g,r2 b,h2,fun x rb hx hg'=>?_⟩
 obtain ⟨t',r',h4⟩:=h3 x hg'
 refine ⟨t',⟨_,r',fun j=>?_⟩,h4⟩
 rw [Yud h1]
 by_cases hj:j=b
 ·rw [if_pos hj,if_pos hj]; exact hx
 ·rw [if_neg hj,if_neg hj]; exact r2 j
/-! frames -/
def FR (t3:F3) (t:FT):Prop:=∃ f,t3=mkF f/\∀ k,k < 576->f k=T.get .un t (k + 1)
theorem Ysg:FR f0 te:=⟨fun _=>.un,rfl,fun _ _=>rfl⟩
def GK (g:G3) (k:Nat):Prop:=∀ f c,Good (g (mkF f) c)->Good (c (f k))
def SK (s:S3) (k:Nat):Prop:=∀ f v c,Good (s (mkF f) v c)->k < 576/\∃ f',(∀ j,j < 576->f' j=if j=k then v else f j)/\Good (c (mkF f'))
noncomputable def up (f:Nat->RV) (k:Nat) (v:RV):Nat->RV:=fun j=>if j=k then v else f j
theorem Yoh:GK Xhg 0:=fun _ _ h=>h
theorem Ykm:SK Xdc 0:=fun f v _ h=>⟨by omega,up f 0 v,fun _ _=>rfl,h⟩
theorem Yog:GK Xhf 1:=fun _ _ h=>h
theorem Ykl:SK Xdb 1:=fun f v _ h=>⟨by omega,up f 1 v,fun _ _=>rfl,h⟩
theorem Yof:GK Xhe 2:=fun _ _ h=>h
theorem Ykk:SK Xda 2:=fun f v _ h=>⟨by omega,up f 2 v,fun _ _=>rfl,h⟩
theorem Yoe:GK Xhd 3:=fun _ _ h=>h
theorem Ykj:SK Xc9 3:=fun f v _ h=>⟨by omega,up f 3 v,fun _ _=>rfl,h⟩
theorem Yod:GK Xhc 4:=fun _ _ h=>h
theorem Yki:SK Xc8 4:=fun f v _ h=>⟨by omega,up f 4 v,fun _ _=>rfl,h⟩
theorem Yoc:GK Xhb 5:=fun _ _ h=>h
theorem Ykh:SK Xc7 5:=fun f v _ h=>⟨by omega,up f 5 v,fun _ _=>rfl,h⟩
theorem Yob:GK Xha 6:=fun _ _ h=>h
theorem Ykg:SK Xc6 6:=fun f v _ h=>⟨by omega,up f 6 v,fun _ _=>rfl,h⟩
theorem Yoa:GK Xg9 7:=fun _ _ h=>h
theorem Ykf:SK Xc5 7:=fun f v _ h=>⟨by omega,up f 7 v,fun _ _=>rfl,h⟩
theorem Yn9:GK Xg8 8:=fun _ _ h=>h
theorem Yke:SK Xc4 8:=fun f v _ h=>⟨by omega,up f 8 v,fun _ _=>rfl,h⟩
theorem Yn8:GK Xg7 9:=fun _ _ h=>h
theorem Ykd:SK Xc3 9:=fun f v _ h=>⟨by omega,up f 9 v,fun _ _=>rfl,h⟩
theorem Yn7:GK Xg6 10:=fun _ _ h=>h
theorem Ykc:SK Xc2 10:=fun f v _ h=>⟨by omega,up f 10 v,fun _ _=>rfl,h⟩
theorem Yn6:GK Xg5 11:=fun _ _ h=>h
theorem Ykb:SK Xc1 11:=fun f v _ h=>⟨by omega,up f 11 v,fun _ _=>rfl,h⟩
theorem Yn5:GK Xg4 12:=fun _ _ h=>h
theorem Yka:SK Xc0 12:=fun f v _ h=>⟨by omega,up f 12 v,fun _ _=>rfl,h⟩
theorem Yn4:GK Xg3 13:=fun _ _ h=>h
theorem Yj9:SK Xcz 13:=fun f v _ h=>⟨by omega,up f 13 v,fun _ _=>rfl,h⟩
theorem Yn3:GK Xg2 14:=fun _ _ h=>h
theorem Yj8:SK Xcy 14:=fun f v _ h=>⟨by omega,up f 14 v,fun _ _=>rfl,h⟩
theorem Yn2:GK Xg1 15:=fun _ _ h=>h
theorem Yj7:SK Xcx 15:=fun f v _ h=>⟨by omega,up f 15 v,fun _ _=>rfl,h⟩
theorem Yn1:GK Xg0 16:=fun _ _ h=>h
theorem Yj6:SK Xcw 16:=fun f v _ h=>⟨by omega,up f 16 v,fun _ _=>rfl,h⟩
theorem Yn0:GK Xgz 17:=fun _ _ h=>h
theorem Yj5:SK Xcv 17:=fun f v _ h=>⟨by omega,up f 17 v,fun _ _=>rfl,h⟩
theorem Ynz:GK Xgy 18:=fun _ _ h=>h
theorem Yj4:SK Xcu 18:=fun f v _ h=>⟨by omega,up f 18 v,fun _ _=>rfl,h⟩
theorem Yny:GK Xgx 19:=fun _ _ h=>h
theorem Yj3:SK Xct 19:=fun f v _ h=>⟨by omega,up f 19 v,fun _ _=>rfl,h⟩
theorem Ynx:GK Xgw 20:=fun _ _ h=>h
theorem Yj2:SK Xcs 20:=fun f v _ h=>⟨by omega,up f 20 v,fun _ _=>rfl,h⟩
theorem Ynw:GK Xgv 21:=fun _ _ h=>h
theorem Yj1:SK Xcr 21:=fun f v _ h=>⟨by omega,up f 21 v,fun _ _=>rfl,h⟩
theorem Ynv:GK Xgu 22:=fun _ _ h=>h
theorem Yj0:SK Xcq 22:=fun f v _ h=>⟨by omega,up f 22 v,fun _ _=>rfl,h⟩
theorem Ynu:GK Xgt 23:=fun _ _ h=>h
theorem Yjz:SK Xcp 23:=fun f v _ h=>⟨by omega,up f 23 v,fun _ _=>rfl,h⟩
theorem Ynt:GK Xgs 24:=fun _ _ h=>h
theorem Yjy:SK Xco 24:=fun f v _ h=>⟨by omega,up f 24 v,fun _ _=>rfl,h⟩
theorem Yns:GK Xgr 25:=fun _ _ h=>h
theorem Yjx:SK Xcn 25:=fun f v _ h=>⟨by omega,up f 25 v,fun _ _=>rfl,h⟩
theorem Ynr:GK Xgq 26:=fun _ _ h=>h
theorem Yjw:SK Xcm 26:=fun f v _ h=>⟨by omega,up f 26 v,fun _ _=>rfl,h⟩
theorem Ynq:GK Xgp 27:=fun _ _ h=>h
theorem Yjv:SK Xcl 27:=fun f v _ h=>⟨by omega,up f 27 v,fun _ _=>rfl,h⟩
theorem Ynp:GK Xgo 28:=fun _ _ h=>h
theorem Yju:SK Xck 28:=fun f v _ h=>⟨by omega,up f 28 v,fun _ _=>rfl,h⟩
theorem Yno:GK Xgn 29:=fun _ _ h=>h
theorem Yjt:SK Xcj 29:=fun f v _ h=>⟨by omega,up f 29 v,fun _ _=>rfl,h⟩
theorem Ynn:GK Xgm 30:=fun _ _ h=>h
theorem Yjs:SK Xci 30:=fun f v _ h=>⟨by omega,up f 30 v,fun _ _=>rfl,h⟩
theorem Ynm:GK Xgl 31:=fun _ _ h=>h
theorem Yjr:SK Xch 31:=fun f v _ h=>⟨by omega,up f 31 v,fun _ _=>rfl,h⟩
theorem Ynl:GK Xgk 32:=fun _ _ h=>h
theorem Yjq:SK Xcg 32:=fun f v _ h=>⟨by omega,up f 32 v,fun _ _=>rfl,h⟩
theorem Ynk:GK Xgj 33:=fun _ _ h=>h
theorem Yjp:SK Xcf 33:=fun f v _ h=>⟨by omega,up f 33 v,fun _ _=>rfl,h⟩
theorem Ynj:GK Xgi 34:=fun _ _ h=>h
theorem Yjo:SK Xce 34:=fun f v _ h=>⟨by omega,up f 34 v,fun _ _=>rfl,h⟩
theorem Yni:GK Xgh 35:=fun _ _ h=>h
theorem Yjn:SK Xcd 35:=fun f v _ h=>⟨by omega,up f 35 v,fun _ _=>rfl,h⟩
theorem Ynh:GK Xgg 36:=fun _ _ h=>h
theorem Yjm:SK Xcc 36:=fun f v _ h=>⟨by omega,up f 36 v,fun _ _=>rfl,h⟩
theorem Yng:GK Xgf 37:=fun _ _ h=>h
theorem Yjl:SK Xcb 37:=fun f v _ h=>⟨by omega,up f 37 v,fun _ _=>rfl,h⟩
theorem Ynf:GK Xge 38:=fun _ _ h=>h
theorem Yjk:SK Xca 38:=fun f v _ h=>⟨by omega,up f 38 v,fun _ _=>rfl,h⟩
theorem Yne:GK Xgd 39:=fun _ _ h=>h
theorem Yjj:SK Xb9 39:=fun f v _ h=>⟨by omega,up f 39 v,fun _ _=>rfl,h⟩
theorem Ynd:GK Xgc 40:=fun _ _ h=>h
theorem Yji:SK Xb8 40:=fun f v _ h=>⟨by omega,up f 40 v,fun _ _=>rfl,h⟩
theorem Ync:GK Xgb 41:=fun _ _ h=>h
theorem Yjh:SK Xb7 41:=fun f v _ h=>⟨by omega,up f 41 v,fun _ _=>rfl,h⟩
theorem Ynb:GK Xga 42:=fun _ _ h=>h
theorem Yjg:SK Xb6 42:=fun f v _ h=>⟨by omega,up f 42 v,fun _ _=>rfl,h⟩
theorem Yna:GK Xf9 43:=fun _ _ h=>h
theorem Yjf:SK Xb5 43:=fun f v _ h=>⟨by omega,up f 43 v,fun _ _=>rfl,h⟩
theorem Ym9:GK Xf8 44:=fun _ _ h=>h
theorem Yje:SK Xb4 44:=fun f v _ h=>⟨by omega,up f 44 v,fun _ _=>rfl,h⟩
theorem Ym8:GK Xf7 45:=fun _ _ h=>h
theorem Yjd:SK Xb3 45:=fun f v _ h=>⟨by omega,up f 45 v,fun _ _=>rfl,h⟩
theorem Ym7:GK Xf6 46:=fun _ _ h=>h
theorem Yjc:SK Xb2 46:=fun f v _ h=>⟨by omega,up f 46 v,fun _ _=>rfl,h⟩
theorem Ym6:GK Xf5 47:=fun _ _ h=>h
theorem Yjb:SK Xb1 47:=fun f v _ h=>⟨by omega,up f 47 v,fun _ _=>rfl,h⟩
theorem Ym5:GK Xf4 48:=fun _ _ h=>h
theorem Yja:SK Xb0 48:=fun f v _ h=>⟨by omega,up f 48 v,fun _ _=>rfl,h⟩
theorem Ym4:GK Xf3 49:=fun _ _ h=>h
theorem Yi9:SK Xbz 49:=fun f v _ h=>⟨by omega,up f 49 v,fun _ _=>rfl,h⟩
theorem Ym3:GK Xf2 50:=fun _ _ h=>h
theorem Yi8:SK Xby 50:=fun f v _ h=>⟨by omega,up f 50 v,fun _ _=>rfl,h⟩
theorem Ym2:GK Xf1 51:=fun _ _ h=>h
theorem Yi7:SK Xbx 51:=fun f v _ h=>⟨by omega,up f 51 v,fun _ _=>rfl,h⟩
theorem Ym1:GK Xf0 52:=fun _ _ h=>h
theorem Yi6:SK Xbw 52:=fun f v _ h=>⟨by omega,up f 52 v,fun _ _=>rfl,h⟩
theorem Ym0:GK Xfz 53:=fun _ _ h=>h
theorem Yi5:SK Xbv 53:=fun f v _ h=>⟨by omega,up f 53 v,fun _ _=>rfl,h⟩
theorem Ymz:GK Xfy 54:=fun _ _ h=>h
theorem Yi4:SK Xbu 54:=fun f v _ h=>⟨by omega,up f 54 v,fun _ _=>rfl,h⟩
theorem Ymy:GK Xfx 55:=fun _ _ h=>h
theorem Yi3:SK Xbt 55:=fun f v _ h=>⟨by omega,up f 55 v,fun _ _=>rfl,h⟩
theorem Ymx:GK Xfw 56:=fun _ _ h=>h
theorem Yi2:SK Xbs 56:=fun f v _ h=>⟨by omega,up f 56 v,fun _ _=>rfl,h⟩
theorem Ymw:GK Xfv 57:=fun _ _ h=>h
theorem Yi1:SK Xbr 57:=fun f v _ h=>⟨by omega,up f 57 v,fun _ _=>rfl,h⟩
theorem Ymv:GK Xfu 58:=fun _ _ h=>h
theorem Yi0:SK Xbq 58:=fun f v _ h=>⟨by omega,up f 58 v,fun _ _=>rfl,h⟩
theorem Ymu:GK Xft 59:=fun _ _ h=>h
theorem Yiz:SK Xbp 59:=fun f v _ h=>⟨by omega,up f 59 v,fun _ _=>rfl,h⟩
theorem Ymt:GK Xfs 60:=fun _ _ h=>h
theorem Yiy:SK Xbo 60:=fun f v _ h=>⟨by omega,up f 60 v,fun _ _=>rfl,h⟩
theorem Yms:GK Xfr 61:=fun _ _ h=>h
theorem Yix:SK Xbn 61:=fun f v _ h=>⟨by omega,up f 61 v,fun _ _=>rfl,h⟩
theorem Ymr:GK Xfq 62:=fun _ _ h=>h
theorem Yiw:SK Xbm 62:=fun f v _ h=>⟨by omega,up f 62 v,fun _ _=>rfl,h⟩
theorem Ymq:GK Xfp 63:=fun _ _ h=>h
theorem Yiv:SK Xbl 63:=fun f v _ h=>⟨by omega,up f 63 v,fun _ _=>rfl,h⟩
theorem Yko:∀ i,i < 8->∀ j,j < 8->∃ g,Zp6 (8 * i + j)=.mk g/\GK g (8 * i + j)
 | 0,_,0,_=>⟨_,rfl,Yoh⟩
 | 0,_,1,_=>⟨_,rfl,Yog⟩
 | 0,_,2,_=>⟨_,rfl,Yof⟩
 | 0,_,3,_=>⟨_,rfl,Yoe⟩
 | 0,_,4,_=>⟨_,rfl,Yod⟩
 | 0,_,5,_=>⟨_,rfl,Yoc⟩
 | 0,_,6,_=>⟨_,rfl,Yob⟩
 | 0,_,7,_=>⟨_,rfl,Yoa⟩
 | 1,_,0,_=>⟨_,rfl,Yn9⟩
 | 1,_,1,_=>⟨_,rfl,Yn8⟩
 | 1,_,2,_=>⟨_,rfl,Yn7⟩
 | 1,_,3,_=>⟨_,rfl,Yn6⟩
 | 1,_,4,_=>⟨_,rfl,Yn5⟩
 | 1,_,5,_=>⟨_,rfl,Yn4⟩
 | 1,_,6,_=>⟨_,rfl,Yn3⟩
 | 1,_,7,_=>⟨_,rfl,Yn2⟩
 | 2,_,0,_=>⟨_,rfl,Yn1⟩
 | 2,_,1,_=>⟨_,rfl,Yn0⟩
 | 2,_,2,_=>⟨_,rfl,Ynz⟩
 | 2,_,3,_=>⟨_,rfl,Yny⟩
 | 2,_,4,_=>⟨_,rfl,Ynx⟩
 | 2,_,5,_=>⟨_,rfl,Ynw⟩
 | 2,_,6,_=>⟨_,rfl,Ynv⟩
 | 2,_,7,_=>⟨_,rfl,Ynu⟩
 | 3,_,0,_=>⟨_,rfl,Ynt⟩
 | 3,_,1,_=>⟨_,rfl,Yns⟩
 | 3,_,2,_=>⟨_,rfl,Ynr⟩
 | 3,_,3,_=>⟨_,rfl,Ynq⟩
 | 3,_,4,_=>⟨_,rfl,Ynp⟩
 | 3,_,5,_=>⟨_,rfl,Yno⟩
 | 3,_,6,_=>⟨_,rfl,Ynn⟩
 | 3,_,7,_=>⟨_,rfl,Ynm⟩
 | 4,_,0,_=>⟨_,rfl,Ynl⟩
 | 4,_,1,_=>⟨_,rfl,Ynk⟩
 | 4,_,2,_=>⟨_,rfl,Ynj⟩
 | 4,_,3,_=>⟨_,rfl,Yni⟩
 | 4,_,4,_=>⟨_,rfl,Ynh⟩
 | 4,_,5,_=>⟨_,rfl,Yng⟩
 | 4,_,6,_=>⟨_,rfl,Ynf⟩
 | 4,_,7,_=>⟨_,rfl,Yne⟩
 | 5,_,0,_=>⟨_,rfl,Ynd⟩
 | 5,_,1,_=>⟨_,rfl,Ync⟩
 | 5,_,2,_=>⟨_,rfl,Ynb⟩
 | 5,_,3,_=>⟨_,rfl,Yna⟩
 | 5,_,4,_=>⟨_,rfl,Ym9⟩
 | 5,_,5,_=>⟨_,rfl,Ym8⟩
 | 5,_,6,_=>⟨_,rfl,Ym7⟩
 | 5,_,7,_=>⟨_,rfl,Ym6⟩
 | 6,_,0,_=>⟨_,rfl,Ym5⟩
 | 6,_,1,_=>⟨_,rfl,Ym4⟩
 | 6,_,2,_=>⟨_,rfl,Ym3⟩
 | 6,_,3,_=>⟨_,rfl,Ym2⟩
 | 6,_,4,_=>⟨_,rfl,Ym1⟩
 | 6,_,5,_=>⟨_,rfl,Ym0⟩
 | 6,_,6,_=>⟨_,rfl,Ymz⟩
 | 6,_,7,_=>⟨_,rfl,Ymy⟩
 | 7,_,0,_=>⟨_,rfl,Ymx⟩
 | 7,_,1,_=>⟨_,rfl,Ymw⟩
 | 7,_,2,_=>⟨_,rfl,Ymv⟩
 | 7,_,3,_=>⟨_,rfl,Ymu⟩
 | 7,_,4,_=>⟨_,rfl,Ymt⟩
 | 7,_,5,_=>⟨_,rfl,Yms⟩
 | 7,_,6,_=>⟨_,rfl,Ymr⟩
 | 7,_,7,_=>⟨_,rfl,Ymq⟩
 | 0,_,j + 8,h=>absurd h (by omega)
 | 1,_,j + 8,h=>absurd h (by omega)
 | 2,_,j + 8,h=>absurd h (by omega)
 | 3,_,j + 8,h=>absurd h (by omega)
 | 4,_,j + 8,h=>absurd h (by omega)
 | 5,_,j + 8,h=>absurd h (by omega)
 | 6,_,j + 8,h=>absurd h (by omega)
 | 7,_,j + 8,h=>absurd h (by omega)
 | i + 8,h,_,_=>absurd h (by omega)
theorem Ykn:∀ i,i < 8->∀ j,j < 8->∃ g,Ztm (8 * i + j)=.mk g/\SK g (8 * i + j)
 | 0,_,0,_=>⟨_,rfl,Ykm⟩
 | 0,_,1,_=>⟨_,rfl,Ykl⟩
 | 0,_,2,_=>⟨_,rfl,Ykk⟩
 | 0,_,3,_=>⟨_,rfl,Ykj⟩
 | 0,_,4,_=>⟨_,rfl,Yki⟩
 | 0,_,5,_=>⟨_,rfl,Ykh⟩
 | 0,_,6,_=>⟨_,rfl,Ykg⟩
 | 0,_,7,_=>⟨_,rfl,Ykf⟩
 | 1,_,0,_=>⟨_,rfl,Yke⟩
 | 1,_,1,_=>⟨_,rfl,Ykd⟩
 | 1,_,2,_=>⟨_,rfl,Ykc⟩
 | 1,_,3,_=>⟨_,rfl,Ykb⟩
 | 1,_,4,_=>⟨_,rfl,Yka⟩
 | 1,_,5,_=>⟨_,rfl,Yj9⟩
 | 1,_,6,_=>⟨_,rfl,Yj8⟩
 | 1,_,7,_=>⟨_,rfl,Yj7⟩
 | 2,_,0,_=>⟨_,rfl,Yj6⟩
 | 2,_,1,_=>⟨_,rfl,Yj5⟩
 | 2,_,2,_=>⟨_,rfl,Yj4⟩
 | 2,_,3,_=>⟨_,rfl,Yj3⟩
 | 2,_,4,_=>⟨_,rfl,Yj2⟩
 | 2,_,5,_=>⟨_,rfl,Yj1⟩
 | 2,_,6,_=>⟨_,rfl,Yj0⟩
 | 2,_,7,_=>⟨_,rfl,Yjz⟩
 | 3,_,0,_=>⟨_,rfl,Yjy⟩
 | 3,_,1,_=>⟨_,rfl,Yjx⟩
 | 3,_,2,_=>⟨_,rfl,Yjw⟩
 | 3,_,3,_=>⟨_,rfl,Yjv⟩
 | 3,_,4,_=>⟨_,rfl,Yju⟩
 | 3,_,5,_=>⟨_,rfl,Yjt⟩
 | 3,_,6,_=>⟨_,rfl,Yjs⟩
 | 3,_,7,_=>⟨_,rfl,Yjr⟩
 | 4,_,0,_=>⟨_,rfl,Yjq⟩
 | 4,_,1,_=>⟨_,rfl,Yjp⟩
 | 4,_,2,_=>⟨_,rfl,Yjo⟩
 | 4,_,3,_=>⟨_,rfl,Yjn⟩
 | 4,_,4,_=>⟨_,rfl,Yjm⟩
 | 4,_,5,_=>⟨_,rfl,Yjl⟩
 | 4,_,6,_=>⟨_,rfl,Yjk⟩
 | 4,_,7,_=>⟨_,rfl,Yjj⟩
 | 5,_,0,_=>⟨_,rfl,Yji⟩
 | 5,_,1,_=>⟨_,rfl,Yjh⟩
 | 5,_,2,_=>⟨_,rfl,Yjg⟩
 | 5,_,3,_=>⟨_,rfl,Yjf⟩
 | 5,_,4,_=>⟨_,rfl,Yje⟩
 | 5,_,5,_=>⟨_,rfl,Yjd⟩
 | 5,_,6,_=>⟨_,rfl,Yjc⟩
 | 5,_,7,_=>⟨_,rfl,Yjb⟩
 | 6,_,0,_=>⟨_,rfl,Yja⟩
 | 6,_,1,_=>⟨_,rfl,Yi9⟩
 | 6,_,2,_=>⟨_,rfl,Yi8⟩
 | 6,_,3,_=>⟨_,rfl,Yi7⟩
 | 6,_,4,_=>⟨_,rfl,Yi6⟩
 | 6,_,5,_=>⟨_,rfl,Yi5⟩
 | 6,_,6,_=>⟨_,rfl,Yi4⟩
 | 6,_,7,_=>⟨_,rfl,Yi3⟩
 | 7,_,0,_=>⟨_,rfl,Yi2⟩
 | 7,_,1,_=>⟨_,rfl,Yi1⟩
 | 7,_,2,_=>⟨_,rfl,Yi0⟩
 | 7,_,3,_=>⟨_,rfl,Yiz⟩
 | 7,_,4,_=>⟨_,rfl,Yiy⟩
 | 7,_,5,_=>⟨_,rfl,Yix⟩
 | 7,_,6,_=>⟨_,rfl,Yiw⟩
 | 7,_,7,_=>⟨_,rfl,Yiv⟩
 | 0,_,j + 8,h=>absurd h (by omega)
 | 1,_,j + 8,h=>absurd h (by omega)
 | 2,_,j + 8,h=>absurd h (by omega)
 | 3,_,j + 8,h=>absurd h (by omega)
 | 4,_,j + 8,h=>absurd h (by omega)
 | 5,_,j + 8,h=>absurd h (by omega)
 | 6,_,j + 8,h=>absurd h (by omega)
 | 7,_,j + 8,h=>absurd h (by omega)
 | i + 8,h,_,_=>absurd h (by omega)
theorem Yy9:∀ i,i < 8->∀ f o (c:M8->A),Good ((Zff (fun _ _=>.no) pN0 pN1 pN2 pN3 pN4 pN5 pN6 pN7 i) (mkN f o) c)->Good (c (mkM f (o + 64 * i)))
 | 0,_,_,_,_,h=>h
 | 1,_,_,_,_,h=>h
 | 2,_,_,_,_,h=>h
 | 3,_,_,_,_,h=>h
 | 4,_,_,_,_,h=>h
 | 5,_,_,_,_,h=>h
 | 6,_,_,_,_,h=>h
 | 7,_,_,_,_,h=>h
 | i + 8,h,_,_,_,_=>absurd h (by omega)
theorem Yza:∀ i,i < 8->∀ f o (c:L8->A),Good ((Zff (fun _ _=>.no) pM0 pM1 pM2 pM3 pM4 pM5 pM6 pM7 i) (mkM f o) c)->Good (c (mkL f (o + 8 * i)))
 | 0,_,_,_,_,h=>h
 | 1,_,_,_,_,h=>h
 | 2,_,_,_,_,h=>h
 | 3,_,_,_,_,h=>h
 | 4,_,_,_,_,h=>h
 | 5,_,_,_,_,h=>h
 | 6,_,_,_,_,h=>h
 | 7,_,_,_,_,h=>h
 | i + 8,h,_,_,_,_=>absurd h (by omega)
theorem Yzb:∀ i,i < 8->∀ f o (c:RV->A),Good ((Zff (fun _ _=>.no) pL0 pL1 pL2 pL3 pL4 pL5 pL6 pL7 i) (mkL f o) c)->Good (c (f (o + i)))
 | 0,_,_,_,_,h=>h
 | 1,_,_,_,_,h=>h
 | 2,_,_,_,_,h=>h
 | 3,_,_,_,_,h=>h
 | 4,_,_,_,_,h=>h
 | 5,_,_,_,_,h=>h
 | 6,_,_,_,_,h=>h
 | 7,_,_,_,_,h=>h
 | i + 8,h,_,_,_,_=>absurd h (by omega)
end Go.Rn
namespace Go.Rn
attribute [local irreducible] Zla CT9 Zix Zfh
theorem Zah (f:Nat->RV) (p:Nat) (v:RV) (o:Nat) (h:p < o ∨ o + 8<=p):mkL (up f p v) o=mkL f o:=by
 have e:∀ j,o<=j->j < o + 8->up f p v j=f j:=fun j h1 h2=>if_neg (by omega)
 unfold mkL
 rw [e o (by omega) (by omega),e (o+1) (by omega) (by omega),e (o+2) (by omega) (by omega),e (o+3) (by omega) (by omega),e (o+4) (by omega) (by omega),e (o+5) (by omega) (by omega),e (o+6) (by omega) (by omega),e (o+7) (by omega) (by omega)]
theorem Zan (f:Nat->RV) (p:Nat) (v:RV) (o:Nat) (h:p < o ∨ o + 64<=p):mkM (up f p v) o=mkM f o:=by
 unfold mkM
 rw [Zah f p v o (by omega),Zah f p v (o+8) (by omega),Zah f p v (o+16) (by omega),Zah f p v (o+24) (by omega),Zah f p v (o+32) (by omega),Zah f p v (o+40) (by omega),Zah f p v (o+48) (by omega),Zah f p v (o+56) (by omega)]
theorem Zoj (f:Nat->RV) (p:Nat) (v:RV):up f p v p=v:=if_pos rfl
theorem Za1 (f:Nat->RV) (p:Nat) (v:RV) (j:Nat) (h:j ≠ p):up f p v j=f j:=if_neg h
theorem Yyv:∀ i,i < 8->∀ f o v c,Good ((Zff (fun _ _ _=>.no) uL0 uL1 uL2 uL3 uL4 uL5 uL6 uL7 i) (mkL f o) (fun _ c=>c v) c)->Good (c (mkL (up f (o + i) v) o))
 | 0,_,f,o,v,c,h=>by
  unfold mkL
  rw [(show up f (o + 0) v o=v from Zoj f o v),Za1 f (o + 0) v (o+1) (by omega),Za1 f (o + 0) v (o+2) (by omega),Za1 f (o + 0) v (o+3) (by omega),Za1 f (o + 0) v (o+4) (by omega),Za1 f (o + 0) v (o+5) (by omega),Za1 f (o + 0) v (o+6) (by omega),Za1 f (o + 0) v (o+7) (by omega)]
  exact h
 | 1,_,f,o,v,c,h=>by
  unfold mkL
  rw [Za1 f (o + 1) v (o) (by omega),Zoj f (o + 1) v,Za1 f (o + 1) v (o+2) (by omega),Za1 f (o + 1) v (o+3) (by omega),Za1 f (o + 1) v (o+4) (by omega),Za1 f (o + 1) v (o+5) (by omega),Za1 f (o + 1) v (o+6) (by omega),Za1 f (o + 1) v (o+7) (by omega)]
  exact h
 | 2,_,f,o,v,c,h=>by
  unfold mkL
  rw [Za1 f (o + 2) v (o) (by omega),Za1 f (o + 2) v (o+1) (by omega),Zoj f (o + 2) v,Za1 f (o + 2) v (o+3) (by omega),Za1 f (o + 2) v (o+4) (by omega),Za1 f (o + 2) v (o+5) (by omega),Za1 f (o + 2) v (o+6) (by omega),Za1 f (o + 2) v (o+7) (by omega)]
  exact h
 | 3,_,f,o,v,c,h=>by
  unfold mkL
  rw [Za1 f (o + 3) v (o) (by omega),Za1 f (o + 3) v (o+1) (by omega),Za1 f (o + 3) v (o+2) (by omega),Zoj f (o + 3) v,Za1 f (o + 3) v (o+4) (by omega),Za1 f (o + 3) v (o+5) (by omega),Za1 f (o + 3) v (o+6) (by omega),Za1 f (o + 3) v (o+7) (by omega)]
  exact h
 | 4,_,f,o,v,c,h=>by
  unfold mkL
  rw [Za1 f (o + 4) v (o) (by omega),Za1 f (o + 4) v (o+1) (by omega),Za1 f (o + 4) v (o+2) (by omega),Za1 f (o + 4) v (o+3) (by omega),Zoj f (o + 4) v,Za1 f (o + 4) v (o+5) (by omega),Za1 f (o + 4) v (o+6) (by omega),Za1 f (o + 4) v (o+7) (by omega)]
  exact h
 | 5,_,f,o,v,c,h=>by
  unfold mkL
  rw [Za1 f (o + 5) v (o) (by omega),Za1 f (o + 5) v (o+1) (by omega),Za1 f (o + 5) v (o+2) (by omega),Za1 f (o + 5) v (o+3) (by omega),Za1 f (o + 5) v (o+4) (by omega),Zoj f (o + 5) v,Za1 f (o + 5) v (o+6) (by omega),Za1 f (o + 5) v (o+7) (by omega)]
  exact h
 | 6,_,f,o,v,c,h=>by
  unfold mkL
  rw [Za1 f (o + 6) v (o) (by omega),Za1 f (o + 6) v (o+1) (by omega),Za1 f (o + 6) v (o+2) (by omega),Za1 f (o + 6) v (o+3) (by omega),Za1 f (o + 6) v (o+4) (by omega),Za1 f (o + 6) v (o+5) (by omega),Zoj f (o + 6) v,Za1 f (o + 6) v (o+7) (by omega)]
  exact h
 | 7,_,f,o,v,c,h=>by
  unfold mkL
  rw [Za1 f (o + 7) v (o) (by omega),Za1 f (o + 7) v (o+1) (by omega),Za1 f (o + 7) v (o+2) (by omega),Za1 f (o + 7) v (o+3) (by omega),Za1 f (o + 7) v (o+4) (by omega),Za1 f (o + 7) v (o+5) (by omega),Za1 f (o + 7) v (o+6) (by omega),Zoj f (o + 7) v]
  exact h
 | i + 8,h,_,_,_,_,_=>absurd h (by omega)
theorem Yyu:∀ i,i < 8->∀ f o p v (u:L8->(L8->A)->A) c,o + 8 * i<=p->p < o + 8 * i + 8->Good ((Zff (fun _ _ _=>.no) uM0 uM1 uM2 uM3 uM4 uM5 uM6 uM7 i) (mkM f o) u c)->∃ g,Good (u (mkL f (o + 8 * i)) g)/\(Good (g (mkL (up f p v) (o + 8 * i)))->Good (c (mkM (up f p v) o)))
 | 0,_,f,o,p,v,u,c,h1,h2,h=>⟨_,h,fun h3=>by
  unfold mkM
  rw [Zah f p v (o+8) (by omega),Zah f p v (o+16) (by omega),Zah f p v (o+24) (by omega),Zah f p v (o+32) (by omega),Zah f p v (o+40) (by omega),Zah f p v (o+48) (by omega),Zah f p v (o+56) (by omega)]
  exact h3⟩
 | 1,_,f,o,p,v,u,c,h1,h2,h=>⟨_,h,fun h3=>by
  unfold mkM
  rw [Zah f p v o (by omega),Zah f p v (o+16) (by omega),Zah f p v (o+24) (by omega),Zah f p v (o+32) (by omega),Zah f p v (o+40) (by omega),Zah f p v (o+48) (by omega),Zah f p v (o+56) (by omega)]
  exact h3⟩
 | 2,_,f,o,p,v,u,c,h1,h2,h=>⟨_,h,fun h3=>by
  unfold mkM
  rw [Zah f p v o (by omega),Zah f p v (o+8) (by omega),Zah f p v (o+24) (by omega),Zah f p v (o+32) (by omega),Zah f p v (o+40) (by omega),Zah f p v (o+48) (by omega),Zah f p v (o+56) (by omega)]
  exact h3⟩
 | 3,_,f,o,p,v,u,c,h1,h2,h=>⟨_,h,fun h3=>by
  unfold mkM
  rw [Zah f p v o (by omega),Zah f p v (o+8) (by omega),Zah f p v (o+16) (by omega),Zah f p v (o+32) (by omega),Zah f p v (o+40) (by omega),Zah f p v (o+48) (by omega),Zah f p v (o+56) (by omega)]
  exact h3⟩
 | 4,_,f,o,p,v,u,c,h1,h2,h=>⟨_,h,fun h3=>by
  unfold mkM
  rw [Zah f p v o (by omega),Zah f p v (o+8) (by omega),Zah f p v (o+16) (by omega),Zah f p v (o+24) (by omega),Zah f p v (o+40) (by omega),Zah f p v (o+48) (by omega),Zah f p v (o+56) (by omega)]
  exact h3⟩
 | 5,_,f,o,p,v,u,c,h1,h2,h=>⟨_,h,fun h3=>by
  unfold mkM
  rw [Zah f p v o (by omega),Zah f p v (o+8) (by omega),Zah f p v (o+16) (by omega),Zah f p v (o+24) (by omega),Zah f p v (o+32) (by omega),Zah f p v (o+48) (by omega),Zah f p v (o+56) (by omega)]
  exact h3⟩
 | 6,_,f,o,p,v,u,c,h1,h2,h=>⟨_,h,fun h3=>by
  unfold mkM
  rw [Zah f p v o (by omega),Zah f p v (o+8) (by omega),Zah f p v (o+16) (by omega),Zah f p v (o+24) (by omega),Zah f p v (o+32) (by omega),Zah f p v (o+40) (by omega),Zah f p v (o+56) (by omega)]
  exact h3⟩
 | 7,_,f,o,p,v,u,c,h1,h2,h=>⟨_,h,fun h3=>by
  unfold mkM
  rw [Zah f p v o (by omega),Zah f p v (o+8) (by omega),Zah f p v (o+16) (by omega),Zah f p v (o+24) (by omega),Zah f p v (o+32) (by omega),Zah f p v (o+40) (by omega),Zah f p v (o+48) (by omega)]
  exact h3⟩
 | i + 8,h,_,_,_,_,_,_,_,_,_=>absurd h (by omega)
theorem Yyt:∀ i,i < 8->∀ f o p v (u:M8->(M8->A)->A) c,o + 64 * i<=p->p < o + 64 * i + 64->Good ((Zff (fun _ _ _=>.no) uN0 uN1 uN2 uN3 uN4 uN5 uN6 uN7 i) (mkN f o) u c)->∃ g,Good (u (mkM f (o + 64 * i)) g)/\(Good (g (mkM (up f p v) (o + 64 * i)))->Good (c (mkN (up f p v) o)))
 | 0,_,f,o,p,v,u,c,h1,h2,h=>⟨_,h,fun h3=>by
  unfold mkN
  rw [Zan f p v (o+64) (by omega),Zan f p v (o+128) (by omega),Zan f p v (o+192) (by omega),Zan f p v (o+256) (by omega),Zan f p v (o+320) (by omega),Zan f p v (o+384) (by omega),Zan f p v (o+448) (by omega)]
  exact h3⟩
 | 1,_,f,o,p,v,u,c,h1,h2,h=>⟨_,h,fun h3=>by
  unfold mkN
  rw [Zan f p v o (by omega),Zan f p v (o+128) (by omega),Zan f p v (o+192) (by omega),Zan f p v (o+256) (by omega),Zan f p v (o+320) (by omega),Zan f p v (o+384) (by omega),Zan f p v (o+448) (by omega)]
  exact h3⟩
 | 2,_,f,o,p,v,u,c,h1,h2,h=>⟨_,h,fun h3=>by
  unfold mkN
  rw [Zan f p v o (by omega),Zan f p v (o+64) (by omega),Zan f p v (o+192) (by omega),Zan f p v (o+256) (by omega),Zan f p v (o+320) (by omega),Zan f p v (o+384) (by omega),Zan f p v (o+448) (by omega)]
  exact h3⟩
 | 3,_,f,o,p,v,u,c,h1,h2,h=>⟨_,h,fun h3=>by
  unfold mkN
  rw [Zan f p v o (by omega),Zan f p v (o+64) (by omega),Zan f p v (o+128) (by omega),Zan f p v (o+256) (by omega),Zan f p v (o+320) (by omega),Zan f p v (o+384) (by omega),Zan f p v (o+448) (by omega)]
  exact h3⟩
 | 4,_,f,o,p,v,u,c,h1,h2,h=>⟨_,h,fun h3=>by
  unfold mkN
  rw [Zan f p v o (by omega),Zan f p v (o+64) (by omega),Zan f p v (o+128) (by omega),Zan f p v (o+192) (by omega),Zan f p v (o+320) (by omega),Zan f p v (o+384) (by omega),Zan f p v (o+448) (by omega)]
  exact h3⟩
 | 5,_,f,o,p,v,u,c,h1,h2,h=>⟨_,h,fun h3=>by
  unfold mkN
  rw [Zan f p v o (by omega),Zan f p v (o+64) (by omega),Zan f p v (o+128) (by omega),Zan f p v (o+192) (by omega),Zan f p v (o+256) (by omega),Zan f p v (o+384) (by omega),Zan f p v (o+448) (by omega)]
  exact h3⟩
 | 6,_,f,o,p,v,u,c,h1,h2,h=>⟨_,h,fun h3=>by
  unfold mkN
  rw [Zan f p v o (by omega),Zan f p v (o+64) (by omega),Zan f p v (o+128) (by omega),Zan f p v (o+192) (by omega),Zan f p v (o+256) (by omega),Zan f p v (o+320) (by omega),Zan f p v (o+448) (by omega)]
  exact h3⟩
 | 7,_,f,o,p,v,u,c,h1,h2,h=>⟨_,h,fun h3=>by
  unfold mkN
  rw [Zan f p v o (by omega),Zan f p v (o+64) (by omega),Zan f p v (o+128) (by omega),Zan f p v (o+192) (by omega),Zan f p v (o+256) (by omega),Zan f p v (o+320) (by omega),Zan f p v (o+384) (by omega)]
  exact h3⟩
 | i + 8,h,_,_,_,_,_,_,_,_,_=>absurd h (by omega)
theorem Xba {k:Nat} (h1:¬ k < 64) (h2:k < 576):Zp6 k=.mk (Xhh ((Zff (fun _ _=>.no) pN0 pN1 pN2 pN3 pN4 pN5 pN6 pN7) ((k - 64) / 64)) ((Zff (fun _ _=>.no) pM0 pM1 pM2 pM3 pM4 pM5 pM6 pM7) ((k - 64) / 8 % 8)) ((Zff (fun _ _=>.no) pL0 pL1 pL2 pL3 pL4 pL5 pL6 pL7) ((k - 64) % 8))):=by
 have e1:Nat.ble k 63=false:=by
  cases h:Nat.ble k 63 with
  | false=>rfl
  | true=>exact absurd (Nat.le_of_ble_eq_true h) (by omega)
 have e2:Nat.ble k 575=true:=Nat.ble_eq_true_of_le (by omega)
 unfold Zp6
 rw [e1,e2]
 rfl
theorem Xa9 {k:Nat} (h1:¬ k < 64) (h2:k < 576):Ztm k=.mk (Xde ((Zff (fun _ _ _=>.no) uN0 uN1 uN2 uN3 uN4 uN5 uN6 uN7) ((k - 64) / 64)) ((Zff (fun _ _ _=>.no) uM0 uM1 uM2 uM3 uM4 uM5 uM6 uM7) ((k - 64) / 8 % 8)) ((Zff (fun _ _ _=>.no) uL0 uL1 uL2 uL3 uL4 uL5 uL6 uL7) ((k - 64) % 8))):=by
 have e1:Nat.ble k 63=false:=by
  cases h:Nat.ble k 63 with
  | false=>rfl
  | true=>exact absurd (Nat.le_of_ble_eq_true h) (by omega)
 have e2:Nat.ble k 575=true:=Nat.ble_eq_true_of_le (by omega)
 unfold Ztm
 rw [e1,e2]
 rfl
theorem Ysf {k:Nat} (h2:¬ k < 576):Zp6 k=.mk (fun _ _=>.no):=by
 have e1:Nat.ble k 63=false:=by
  cases h:Nat.ble k 63 with
  | false=>rfl
  | true=>exact absurd (Nat.le_of_ble_eq_true h) (by omega)
 have e2:Nat.ble k 575=false:=by
  cases h:Nat.ble k 575 with
  | false=>rfl
  | true=>exact absurd (Nat.le_of_ble_eq_true h) (by omega)
 unfold Zp6
 rw [e1,e2]
 rfl
theorem Xaw {k:Nat} (h2:¬ k < 576):Ztm k=.mk (fun _ _ _=>.no):=by
 have e1:Nat.ble k 63=false:=by
  cases h:Nat.ble k 63 with
  | false=>rfl
  | true=>exact absurd (Nat.le_of_ble_eq_true h) (by omega)
 have e2:Nat.ble k 575=false:=by
  cases h:Nat.ble k 575 with
  | false=>rfl
  | true=>exact absurd (Nat.le_of_ble_eq_true h) (by omega)
 unfold Ztm
 rw [e1,e2]
 rfl
theorem Yoi (k:Nat):∃ g,Zp6 k=.mk g/\(GK g k ∨ ∀ t c,Good (g t c)->False):=by
 by_cases h1:k < 64
 ·obtain ⟨g,e,hg⟩:=Yko (k / 8) (by omega) (k % 8) (by omega)
  rw [show 8 * (k / 8) + k % 8=k by omega] at e hg
  exact ⟨g,e,.inl hg⟩
 ·by_cases h2:k < 576
  ·refine ⟨_,Xba h1 h2,.inl fun f c h=>?_⟩
   have h3:=Yy9 ((k - 64) / 64) (by omega) f 64 _ h
   have h4:=Yza ((k - 64) / 8 % 8) (by omega) f _ _ h3
   have h5:=Yzb ((k - 64) % 8) (by omega) f _ _ h4
   rw [show 64 + 64 * ((k - 64) / 64) + 8 * ((k - 64) / 8 % 8) + (k - 64) % 8=k by omega] at h5
   exact h5
  ·exact ⟨_,Ysf h2,.inr fun _ _ h=>Good.no h⟩
theorem Zxw (k:Nat):∃ s,Ztm k=.mk s/\SK s k:=by
 by_cases h1:k < 64
 ·obtain ⟨g,e,hg⟩:=Ykn (k / 8) (by omega) (k % 8) (by omega)
  rw [show 8 * (k / 8) + k % 8=k by omega] at e hg
  exact ⟨g,e,hg⟩
 ·by_cases h2:k < 576
  ·refine ⟨_,Xa9 h1 h2,fun f v c h=>⟨h2,up f k v,fun _ _=>rfl,?_⟩⟩
   obtain ⟨g1,h3,h4⟩:=Yyt ((k - 64) / 64) (by omega) f 64 k v _ _ (by omega) (by omega) h
   obtain ⟨g2,h5,h6⟩:=Yyu ((k - 64) / 8 % 8) (by omega) f _ k v _ _ (by omega) (by omega) h3
   have h7:=Yyv ((k - 64) % 8) (by omega) f _ v _ h5
   rw [show 64 + 64 * ((k - 64) / 64) + 8 * ((k - 64) / 8 % 8) + (k - 64) % 8=k by omega] at h7
   have h8:=h4 (h6 h7)
   show Good (c (mkF (up f k v)))
   unfold mkF
   rw [Zah f k v 0 (by omega),Zah f k v 8 (by omega),Zah f k v 16 (by omega),Zah f k v 24 (by omega),Zah f k v 32 (by omega),Zah f k v 40 (by omega),Zah f k v 48 (by omega),Zah f k v 56 (by omega)]
   exact h8
  ·exact ⟨_,Xaw h2,fun _ _ _ h=>Good.no h⟩
def GOk (g:G3) (e:FT->RV):Prop:=∀ t3 t c,FR t3 t->Good (g t3 c)->Good (c (e t))
def SOk (s:S3) (put:FT->RV->FT):Prop:=∀ t3 t v c,FR t3 t->Good (s t3 v c)->∃ t3',FR t3' (put t v)/\Good (c t3')
theorem Zka (p:Pa):∃ g,Zp6 (Nat.sub (Pa.val p) 1)=.mk g/\GOk g fun t=>tg t p:=by
 obtain ⟨g,e,hg⟩:=Yoi (p.val - 1)
 refine ⟨g,e,?_⟩
 rintro t3 t c ⟨f,rfl,hf⟩ h
 rcases hg with hg | hg
 ·have h1:=hg f c h
  have hp:=p.val_pos
  by_cases hk:p.val - 1 < 576
  ·rw [hf _ hk,show p.val - 1 + 1=p.val by omega] at h1
   show Good (c (T.getP .un t p))
   rw [Zmx]
   exact h1
  ·rw [Ysf hk] at e
   cases e
   exact Good.no h
 ·exact (hg _ _ h).elim
theorem FR.set {f:Nat->RV} {t t':FT} {k:Nat} {v:RV} (hf:∀ j,j < 576->f j=T.get .un t (j + 1)) (ht:∀ j,j < 576->T.get .un t' (j + 1)=if j=k then v else T.get .un t (j + 1)) {f':Nat->RV} (h:∀ j,j < 576->f' j=if j=k then v else f j):FR (mkF f') t':=
 ⟨f',rfl,fun j hj=>by rw [h j hj,ht j hj,hf j hj]⟩
theorem Zxv (p:Pa):∃ s,Ztm (Nat.sub (Pa.val p) 1)=.mk s/\SOk s fun t v=>tst t v p:=by
 obtain ⟨s,e,hs⟩:=Zxw (p.val - 1)
 refine ⟨s,e,?_⟩
 rintro t3 t v c ⟨f,rfl,hf⟩ h
 obtain ⟨hk,f',h1,h2⟩:=hs f v c h
 have hp:=p.val_pos
 refine ⟨_,FR.set hf (fun j hj=>?_) h1,h2⟩
 show T.get .un (T.setP .un t v p) (j + 1)=_
 rw [Zfx]
 by_cases q:j=p.val - 1
 ·rw [if_pos q,if_pos (by omega)]
 ·rw [if_neg q,if_neg (by omega)]
theorem Ykr (i:Nat):∃ s,Ztm i=.mk s/\SOk s fun t v=>cst t v i:=by
 obtain ⟨s,e,hs⟩:=Zxw i
 refine ⟨s,e,?_⟩
 rintro t3 t v c ⟨f,rfl,hf⟩ h
 obtain ⟨hk,f',h1,h2⟩:=hs f v c h
 exact ⟨_,FR.set hf (fun j hj=>Yhc (show i < 87381 by omega) j) h1,h2⟩
end Go.Rn
