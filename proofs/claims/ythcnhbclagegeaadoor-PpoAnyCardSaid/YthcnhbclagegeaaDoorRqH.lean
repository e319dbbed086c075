/-
  One text of a symbolic evaluator Zfe the model, shown sound once for every program: no statement is claimed here.
-/
import Derived.Test.YthcnhbclagegeaaDoorRqF
namespace Go.Rn
attribute [local irreducible] Zla CT9 Zix Zfh
section
variable {ys:Ys} {fl:Nat}
def LIM:Nat:=1152921504606846976
def POk (ys:Ys) (f:P3) (o:RP):Prop:=∀ t3 t c,FR t3 t->Good (f t3 c)->∃ v,(∀ cl fl lim h n,step o ys cl fl lim t h n=.ok v h n)/\Good (c v)
def Zjn (fl:Nat) (cl3:Cl3) (cl:Cl'):Prop:=∀ f a h3 h n k,Zbw h3 h->Good (cl3 f a h3 n k)->∃ v h' n' h3',cl f a fl h n=.ok v h' n'/\Zbw h3' h'/\Good (k v h3' n')
def EOk (ys:Ys) (fl:Nat) (f:E3) (o:RP):Prop:=∀ cl3 cl t3 t h3 h n c,Zjn fl cl3 cl->FR t3 t->Zbw h3 h->Good (f cl3 t3 h3 n c)->∃ v h' n' h3',step o ys cl fl LIM t h n=.ok v h' n'/\Zbw h3' h'/\Good (c v h3' n')
def Zci (ys:Ys) (fl:Nat) (w:Ow) (o:RP):Prop:=match w with | .p f=>POk ys f o | .e f=>EOk ys fl f o | .no=>True
theorem Zgr (x:RO):∃ g,Ztn x=.mk g/\GOk g fun t=>ev t x:=by
 cases x with
 | t p=>exact Zka p
 | c v=>exact ⟨_,rfl,fun _ _ _ _ h=>h⟩
theorem Zc8 {x:RO} {f:G3->Ow} {o:RP} (h:∀ g,GOk g (fun t=>ev t x)->Zci ys fl (f g) o):Zci ys fl (g1 x f) o:=by
 obtain ⟨g,e,hg⟩:=Zgr x
 unfold g1
 rw [e]
 exact h g hg
theorem Zfc {x y:RO} {f:G3->G3->Ow} {o:RP} (h:∀ a b,GOk a (fun t=>ev t x)->GOk b (fun t=>ev t y)->Zci ys fl (f a b) o):Zci ys fl (g2 x y f) o:=
 Zc8 fun a ha=>Zc8 fun b hb=>h a b ha hb
theorem Zh8 {x r:RV} (h1:x ≠ .un) (h2:r ≠ .un):Zd7 x r=.cons x r:=by
 unfold Zd7
 cases x <;> first | exact absurd rfl h1 | (cases r <;> first | exact absurd rfl h2 | rfl)
theorem Zb0 {α:Type} {d:α} {v:RV} {k:RV->α} (h:v ≠ .un):nU d v k=k v:=by cases v <;> first | exact absurd rfl h | rfl
theorem Zck {v:RV} {h:HT} {n w:Nat} (e:v ≠ .un):okV v h n w=.ok v h n:=Zb0 e
def COk (g:G3) (e:FT->RV):Prop:=∀ t3 t c,FR t3 t->Good (g t3 c)->e t ≠ .un/\Good (c (e t))
theorem Zw5:∀ l:List RO,∃ g,evw l=.mk g/\COk g fun t=>evL t l
 | []=>⟨_,rfl,fun _ _ _ _ h=>⟨by show RV.nil ≠ .un; simp,h⟩⟩
 | x::l=>by
  obtain ⟨r,e1,h1⟩:=Zw5 l
  obtain ⟨g,e2,h2⟩:=Zgr x
  refine ⟨Yig g r,?_,?_⟩
  ·show @Gw.rec (fun _=>Gw) (fun r=>@Gw.rec (fun _=>Gw) (fun g=>.mk (Yig g r)) (Ztn x)) (evw l)=_
   rw [e1,e2]
  ·intro t3 t c hF h
   obtain ⟨h3,h4⟩:=Zfd (h2 _ _ _ hF h)
   obtain ⟨h5,h6⟩:=h1 _ _ _ hF h4
   show Zd7 (ev t x) (evL t l) ≠ .un/\Good (c (Zd7 (ev t x) (evL t l)))
   rw [Zh8 h3 h5]
   exact ⟨by simp,h6⟩
theorem Ybc {l:List RO} {f:G3->Ow} {o:RP} (h:∀ g,COk g (fun t=>evL t l)->Zci ys fl (f g) o):Zci ys fl (gl l f) o:=by
 obtain ⟨g,e,hg⟩:=Zw5 l
 unfold gl
 rw [e]
 exact h g hg
def NOk (f:F3->Nat->(Nat->A)->A) (x:Option RO):Prop:=∀ t3 t d c,FR t3 t->Good (f t3 d c)->∃ m,Zev t x d=some m/\Good (c m)
theorem Yl7 (x:Option RO):∃ f,Xfi x=.mk f/\NOk f x:=by
 cases x with
 | none=>exact ⟨_,rfl,fun _ _ d _ _ h=>⟨d,rfl,h⟩⟩
 | some x=>
  obtain ⟨g,e,hg⟩:=Zgr x
  refine ⟨Yh8 g,?_,?_⟩
  ·show @Gw.rec (fun _=>Nw) (fun g=>.mk (Yh8 g)) (Ztn x)=_
   rw [e]
  ·intro t3 t d c hF h
   obtain ⟨j,m,e1,h1⟩:=Zwg (hg _ _ _ hF h)
   refine ⟨m,?_,h1⟩
   have e1:ev t x=.i j (.ofNat m):=e1
   show gI none (ev t x) (fun _ n=>bf (Zjg n) (some (Zbz n)) none)=some m
   rw [e1]
   rfl
theorem Zl7 {x:Option RO} {f:(F3->Nat->(Nat->A)->A)->Ow} {o:RP} (h:∀ g,NOk g x->Zci ys fl (f g) o):Zci ys fl (n1 x f) o:=by
 obtain ⟨g,e,hg⟩:=Yl7 x
 unfold n1
 rw [e]
 exact h g hg
/-! chains -/
theorem Zw8:∀ {j:Nat} {c:RV} {k:RV->A},Good (chG j c k)->Zdi c j ≠ .un/\Good (k (Zdi c j))
 | 0,c,k,h=>by
  obtain ⟨a,r,rfl,h1⟩:=Zf7 h
  exact Zfd h1
 | j + 1,c,k,h=>by
  obtain ⟨a,r,rfl,h1⟩:=Zf7 h
  exact Zw8 (j:=j) (c:=r) h1
theorem Zse:∀ {j:Nat} {c:RV} {k:RV->A},Good (Yrg j c k)->∃ r,(∀ i,Zdi c (j + i)=Zdi r i)/\Good (k r)
 | 0,c,k,h=>⟨c,fun i=>by rw [Nat.zero_add],h⟩
 | j + 1,c,k,h=>by
  obtain ⟨a,r,rfl,h1⟩:=Zf7 h
  obtain ⟨q,h2,h3⟩:=Zse (j:=j) (c:=r) h1
  refine ⟨q,fun i=>?_,h3⟩
  rw [<- h2 i,show j + 1 + i=(j + i) + 1 by omega]
  rfl
theorem Zsc:∀ {m:Nat} {r c:RV} {o:Nat} {k:RV->A},(∀ i,Zdi c (o + i)=Zdi r i)->Good (Yq6 m r k)->Zmc c m o ≠ .un/\Good (k (Zmc c m o))
 | 0,r,c,o,k,_,h=>⟨by show RV.nil ≠ .un; simp,h⟩
 | m + 1,r,c,o,k,hc,h=>by
  obtain ⟨a,q,rfl,h1⟩:=Zf7 h
  obtain ⟨h2,h3⟩:=Zfd h1
  obtain ⟨h4,h5⟩:=Zsc (m:=m) (r:=q) (c:=c) (o:=o + 1) (fun i=>by rw [show o + 1 + i=o + (i + 1) by omega,hc]; rfl) h3
  have e:Zdi c o=a:=by have:=hc 0; rw [Nat.add_zero] at this; rw [this]; rfl
  show Zd7 (Zdi c o) (Zmc c m (o + 1)) ≠ .un/\Good (k (Zd7 (Zdi c o) (Zmc c m (o + 1))))
  rw [e,Zh8 h2 h4]
  exact ⟨by simp,h5⟩
theorem Znr {g:Bool} {c:RV} {off m:Nat} {k:RV->A} (h:Good (Zvp g c off m k)):∃ v,(∀ h n,Zh1 g c off m h n=.ok v h n)/\Good (k v):=by
 rcases Zaw h with ⟨rfl,h1⟩ | ⟨rfl,h1⟩
 ·obtain ⟨r,h2,h3⟩:=Zse h1
  obtain ⟨h4,h5⟩:=Zsc h2 h3
  exact ⟨_,fun h n=>Zb0 h4,h5⟩
 ·obtain ⟨h2,h3⟩:=Zw8 h1
  exact ⟨_,fun h n=>Zck h2,h3⟩
theorem Zmy:∀ {l:List Nat} {k:List Nat->A},Good (Yp8 l k)->Good (k l)
 | [],_,h=>h
 | x::l,k,h=>Zmy (l:=l) (k:=fun r=>k (x::r)) (Zat (r:=x) (k:=fun x=>Yp8 l fun r=>k (x::r)) h)
theorem Zx1:∀ {l:List Nat} {i:Nat} {k:Nat->A},Good (Xfk l i k)->i < l.length/\∃ c,l[i]?=some c/\Good (k c)
 | [],_,_,h=>Good.no h
 | x::l,0,_,h=>⟨by simp,x,by simp,h⟩
 | x::l,i + 1,k,h=>by
  obtain ⟨h1,c,h2,h3⟩:=Zx1 (l:=l) (i:=i) (k:=k) h
  exact ⟨by simp; omega,c,by simpa using h2,h3⟩
/-! numbers -/
def BOk (ys:Ys) (op:BinOp) (f:RV->RV->(RV->A)->A):Prop:=∀ x y k,Good (f x y k)->Zji ys op x y ≠ .un/\Good (k (Zji ys op x y))
theorem Za7 (op:BinOp):BOk ys op (Zg2 ys op):=fun _ _ _ h=>Zcs h
theorem Zj0 {x y:RV} {fi fu:Nat->Nat->A} {s:A} (h:Good (cM2 x y fi fu s)):(∃ a b,x=.i .i64 (.ofNat a)/\y=.i .i64 (.ofNat b)/\Good (fi a b)) ∨ (∃ a b,x=.i .u64 (.ofNat a)/\y=.i .u64 (.ofNat b)/\Good (fu a b)) ∨ Good s:=by
 rcases Zf8 h with ⟨a,rfl,h1⟩ | ⟨a,rfl,h1⟩ | h1
 ·rcases Zf8 h1 with ⟨b,rfl,h2⟩ | ⟨b,rfl,h2⟩ | h2
  ·exact .inl ⟨a,b,rfl,rfl,h2⟩
  ·exact .inr (.inr h2)
  ·exact .inr (.inr h2)
 ·rcases Zf8 h1 with ⟨b,rfl,h2⟩ | ⟨b,rfl,h2⟩ | h2
  ·exact .inr (.inr h2)
  ·exact .inr (.inl ⟨a,b,rfl,rfl,h2⟩)
  ·exact .inr (.inr h2)
 ·exact .inr (.inr h1)
theorem Zdx (k:IntKind) (m:Nat):mkI k (.ofNat m)=.i k (.ofNat m):=by cases m <;> rfl
theorem wrap_i64 {m:Nat} (h:m<=9223372036854775807):IntKind.wrap .i64 (.ofNat m)=.ofNat m:=by
 simp only [IntKind.wrap,IntKind.bits,IntKind.signed]
 have:(Int.ofNat m)=(m:Int):=rfl
 rw [this]
 simp
 omega
theorem wrap_u64 (m:Nat):IntKind.wrap .u64 (.ofNat m)=.ofNat (m % 18446744073709551616):=by
 simp only [IntKind.wrap,IntKind.bits,IntKind.signed]
 have:(Int.ofNat m)=(m:Int):=rfl
 rw [this]
 simp
theorem Zfm {m:Nat} (h:m<=9223372036854775807):Zc7 .i64 (.ofNat m)=.i .i64 (.ofNat m):=by
 have e:small (.ofNat m)=true:=Nat.ble_eq_true_of_le h
 show bf (small (.ofNat m)) (mkI .i64 (.ofNat m)) (mkI .i64 (IntKind.wrap .i64 (.ofNat m)))=_
 rw [e]
 exact Zdx _ _
theorem Zhp (m:Nat):Zc7 .u64 (.ofNat m)=.i .u64 (.ofNat (m % 18446744073709551616)):=by
 show mkI .u64 (IntKind.wrap .u64 (.ofNat m))=_
 rw [wrap_u64,Zdx]
theorem Zgv {r:Nat} {k:RV->A} {s:A} (h:Good (Zut r k s)):(r<=9223372036854775807/\Good (k (.i .i64 (.ofNat r)))) ∨ Good s:=by
 rcases Zaw h with ⟨h1,h2⟩ | ⟨_,h2⟩
 ·exact .inl ⟨Nat.le_of_ble_eq_true h1,Zat h2⟩
 ·exact .inr h2
theorem Zq8 {r:Nat} {k:RV->A} {s:A} (h:Good (Ypt r k s)):(r<=18446744073709551615/\Good (k (.i .u64 (.ofNat r)))) ∨ Good s:=by
 rcases Zaw h with ⟨h1,h2⟩ | ⟨_,h2⟩
 ·exact .inl ⟨Nat.le_of_ble_eq_true h1,Zat h2⟩
 ·exact .inr h2
theorem Zp4 {op:BinOp} {x y v:RV} {k:RV->A} (e:Zji ys op x y=v) (hv:v ≠ .un) (h:Good (k v)):Zji ys op x y ≠ .un/\Good (k (Zji ys op x y)):=by rw [e]; exact ⟨hv,h⟩
theorem Zof {j:IntKind} {z:Int}:RV.i j z ≠ .un:=by simp
theorem Xhp {b:Bool}:mkB b ≠ .un:=by cases b <;> simp [mkB]
theorem Yo9:BOk ys .add (Xhw ys):=fun x y k h=>by
 rcases Zj0 h with ⟨a,b,rfl,rfl,h1⟩ | ⟨a,b,rfl,rfl,h1⟩ | h1
 ·rcases Zgv h1 with ⟨h2,h3⟩ | h2
  ·exact Zp4 (Zfm h2) Zof h3
  ·exact Za7 _ _ _ _ h2
 ·exact Zp4 (Zhp (a + b)) Zof (Zat h1)
 ·exact Za7 _ _ _ _ h1
theorem Yo8:BOk ys .mul (Xhv ys):=fun x y k h=>by
 rcases Zj0 h with ⟨a,b,rfl,rfl,h1⟩ | ⟨a,b,rfl,rfl,h1⟩ | h1
 ·rcases Zgv h1 with ⟨h2,h3⟩ | h2
  ·exact Zp4 (Zfm h2) Zof h3
  ·exact Za7 _ _ _ _ h2
 ·exact Zp4 (Zhp (a * b)) Zof (Zat h1)
 ·exact Za7 _ _ _ _ h1
theorem Zxs {a b:Nat} (h:b<=a):Int.sub (.ofNat a) (.ofNat b)=.ofNat (a - b):=by
 show (a:Int) - (b:Int)=((a - b:Nat):Int)
 omega
theorem Yo3:BOk ys .sub (Xhq ys):=fun x y k h=>by
 rcases Zj0 h with ⟨a,b,rfl,rfl,h1⟩ | ⟨a,b,rfl,rfl,h1⟩ | h1
 ·rcases Zaw h1 with ⟨h2,h3⟩ | ⟨_,h3⟩
  ·rcases Zgv h3 with ⟨h4,h5⟩ | h4
   ·refine Zp4 (v:=.i .i64 (.ofNat (a - b))) ?_ Zof h5
    show Zc7 .i64 (Int.sub (.ofNat a) (.ofNat b))=_
    rw [Zxs (Nat.le_of_ble_eq_true h2)]
    exact Zfm h4
   ·exact Za7 _ _ _ _ h4
  ·exact Za7 _ _ _ _ h3
 ·rcases Zaw h1 with ⟨h2,h3⟩ | ⟨_,h3⟩
  ·rcases Zq8 h3 with ⟨h4,h5⟩ | h4
   ·refine Zp4 (v:=.i .u64 (.ofNat (a - b))) ?_ Zof h5
    show Zc7 .u64 (Int.sub (.ofNat a) (.ofNat b))=_
    rw [Zxs (Nat.le_of_ble_eq_true h2),Zhp]
    have h4:a - b<=18446744073709551615:=h4
    rw [Nat.mod_eq_of_lt (by omega)]
   ·exact Za7 _ _ _ _ h4
  ·exact Za7 _ _ _ _ h3
 ·exact Za7 _ _ _ _ h1
theorem Zq9 {op:BinOp} {f:Nat->Nat->Nat} (e:∀ j a b,Zji ys op (.i j (.ofNat a)) (.i j (.ofNat b))=mkI j (IntKind.wrap j (.ofNat (f a b)))):BOk ys op (Yxl ys op f):=fun x y k h=>by
 rcases Zj0 h with ⟨a,b,rfl,rfl,h1⟩ | ⟨a,b,rfl,rfl,h1⟩ | h1
 ·rcases Zgv h1 with ⟨h2,h3⟩ | h2
  ·refine Zp4 (v:=.i .i64 (.ofNat (f a b))) ?_ Zof h3
   rw [e,wrap_i64 h2,Zdx]
  ·exact Za7 _ _ _ _ h2
 ·rcases Zq8 h1 with ⟨h2,h3⟩ | h2
  ·refine Zp4 (v:=.i .u64 (.ofNat (f a b))) ?_ Zof h3
   rw [e,wrap_u64,Zdx,Nat.mod_eq_of_lt (by omega)]
  ·exact Za7 _ _ _ _ h2
 ·exact Za7 _ _ _ _ h1
theorem Zia {op:BinOp} {f:Nat->Nat->Bool} (e1:∀ a b,Zji ys op (.i .i64 (.ofNat a)) (.i .i64 (.ofNat b))=mkB (f a b)) (e2:∀ a b,Zji ys op (.i .u64 (.ofNat a)) (.i .u64 (.ofNat b))=mkB (f a b)):BOk ys op (Yhx ys op f):=fun x y k h=>by
 rcases Zj0 h with ⟨a,b,rfl,rfl,h1⟩ | ⟨a,b,rfl,rfl,h1⟩ | h1
 ·exact Zp4 (e1 a b) Xhp (Zez h1)
 ·exact Zp4 (e2 a b) Xhp (Zez h1)
 ·exact Za7 _ _ _ _ h1
theorem Zfk (a b:Nat):ltI (.ofNat a) (.ofNat b)=Nat.ble (a + 1) b:=by
 have e:∀ z:Int,@Int.rec (fun _=>Bool) (fun _=>false) (fun _=>true) z=decide (z < 0):=by
  intro z
  cases z with
  | ofNat m=>show false=decide ((m:Int) < 0); symm; rw [decide_eq_false_iff_not]; omega
  | negSucc m=>show true=decide (Int.negSucc m < 0); symm; rw [decide_eq_true_iff]; omega
 show @Int.rec (fun _=>Bool) (fun _=>false) (fun _=>true) (Int.sub (.ofNat a) (.ofNat b))=_
 rw [e]
 show decide ((a:Int) - (b:Int) < 0)=Nat.ble (a + 1) b
 cases h:Nat.ble (a + 1) b with
 | true=>rw [decide_eq_true_iff]; have:=Nat.le_of_ble_eq_true h; omega
 | false=>
  rw [decide_eq_false_iff_not]
  intro h2
  have:Nat.ble (a + 1) b=true:=Nat.ble_eq_true_of_le (by omega)
  rw [h] at this; cases this
theorem Zrw (a b:Nat):Zdp (Nat.ble (b + 1) a)=Nat.ble a b:=by
 cases h:Nat.ble a b with
 | true=>
  have:=Nat.le_of_ble_eq_true h
  cases h2:Nat.ble (b + 1) a with
  | false=>rfl
  | true=>have:=Nat.le_of_ble_eq_true h2; omega
 | false=>
  cases h2:Nat.ble (b + 1) a with
  | true=>rfl
  | false=>
   exfalso
   by_cases q:a<=b
   ·rw [Nat.ble_eq_true_of_le q] at h; cases h
   ·rw [Nat.ble_eq_true_of_le (show b + 1<=a by omega)] at h2; cases h2
theorem Yo7:BOk ys .quo (Xhu ys):=fun x y k h=>by
 rcases Zj0 h with ⟨a,b,rfl,rfl,h1⟩ | ⟨a,b,rfl,rfl,h1⟩ | h1
 ·rcases Zaw h1 with ⟨_,h2⟩ | ⟨h2,h3⟩
  ·exact Good.no h2
  ·rcases Zgv h3 with ⟨h4,h5⟩ | h4
   ·refine Zp4 (v:=.i .i64 (.ofNat (a / b))) ?_ Zof h5
    show bf (Nat.beq b 0) .un (Zc7 .i64 (Int.tdiv (.ofNat a) (.ofNat b)))=_
    rw [h2]
    exact Zfm h4
   ·exact Za7 _ _ _ _ h4
 ·exact Za7 _ _ _ _ h1
 ·exact Za7 _ _ _ _ h1
theorem Yo6:BOk ys .rem (Xht ys):=fun x y k h=>by
 rcases Zj0 h with ⟨a,b,rfl,rfl,h1⟩ | ⟨a,b,rfl,rfl,h1⟩ | h1
 ·rcases Zaw h1 with ⟨_,h2⟩ | ⟨h2,h3⟩
  ·exact Good.no h2
  ·refine Zp4 (v:=.i .i64 (.ofNat (a % b))) ?_ Zof (Zat h3)
   show bf (Nat.beq b 0) .un (mkI .i64 (Int.tmod (.ofNat a) (.ofNat b)))=_
   rw [h2]
   exact Zdx _ _
 ·exact Za7 _ _ _ _ h1
 ·exact Za7 _ _ _ _ h1
theorem Yh2 (j i:IntKind) (a b:Nat) (h:Nat.ble b (IntKind.bits j)=true):Zji ys .shl (.i j (.ofNat a)) (.i i (.ofNat b))=mkI j (IntKind.wrap j (.ofNat (a * 2 ^ b))):=by
 show bf (Nat.ble b (IntKind.bits j)) _ _=_
 rw [h]
 rfl
theorem Yyz (j i:IntKind) (a b:Nat) (h:Nat.ble b (IntKind.bits j)=true):Zji ys .shr (.i j (.ofNat a)) (.i i (.ofNat b))=mkI j (.ofNat (a / 2 ^ b)):=by
 show bf (Nat.ble b (IntKind.bits j)) _ _=_
 rw [h]
 rfl
theorem Xdd {i:IntKind} {a b:Nat} {k:RV->A} (h:Good (ifA (Nat.ble b 64) (Zut (Nat.mul a (Nat.pow 2 b)) k (Zg2 ys .shl (.i .i64 (.ofNat a)) (.i i (.ofNat b)) k)) .no)) :
  Zji ys .shl (.i .i64 (.ofNat a)) (.i i (.ofNat b)) ≠ .un/\Good (k (Zji ys .shl (.i .i64 (.ofNat a)) (.i i (.ofNat b)))):=by
 obtain ⟨h1,h2⟩:=Za2 h
 rcases Zgv h2 with ⟨h3,h4⟩ | h3
 ·refine Zp4 (v:=.i .i64 (.ofNat (a * 2 ^ b))) ?_ Zof h4
  have h3:a * 2 ^ b<=9223372036854775807:=h3
  rw [Yh2 _ _ _ _ h1,wrap_i64 h3,Zdx]
 ·exact Za7 _ _ _ _ h3
theorem Yo5:BOk ys .shl (Xhs ys):=fun x y k h=>by
 rcases Zf8 h with ⟨a,rfl,h1⟩ | ⟨a,rfl,h1⟩ | h1
 ·rcases Zf8 h1 with ⟨b,rfl,h2⟩ | ⟨b,rfl,h2⟩ | h2
  ·exact Xdd h2
  ·exact Xdd h2
  ·exact Za7 _ _ _ _ h2
 ·rcases Zf8 h1 with ⟨b,rfl,h2⟩ | ⟨b,rfl,h2⟩ | h2
  ·obtain ⟨h3,h4⟩:=Za2 h2
   refine Zp4 (v:=.i .u64 (.ofNat (a * 2 ^ b % 18446744073709551616))) ?_ Zof (Zat h4)
   rw [Yh2 _ _ _ _ h3,wrap_u64,Zdx]
  ·obtain ⟨h3,h4⟩:=Za2 h2
   refine Zp4 (v:=.i .u64 (.ofNat (a * 2 ^ b % 18446744073709551616))) ?_ Zof (Zat h4)
   rw [Yh2 _ _ _ _ h3,wrap_u64,Zdx]
  ·exact Za7 _ _ _ _ h2
 ·exact Za7 _ _ _ _ h1
theorem Yw5 {j i:IntKind} {a b:Nat} {k:RV->A} (e:IntKind.bits j=64) (h:Good (ifA (Nat.ble b 64) (frc (Nat.div a (Nat.pow 2 b)) fun r=>k (.i j (.ofNat r))) .no)) :
  Zji ys .shr (.i j (.ofNat a)) (.i i (.ofNat b)) ≠ .un/\Good (k (Zji ys .shr (.i j (.ofNat a)) (.i i (.ofNat b)))):=by
 obtain ⟨h1,h2⟩:=Za2 h
 refine Zp4 (v:=.i j (.ofNat (a / 2 ^ b))) ?_ Zof (Zat h2)
 rw [Yyz _ _ _ _ (by rw [e]; exact h1),Zdx]
theorem Yo4:BOk ys .shr (Xhr ys):=fun x y k h=>by
 rcases Zf8 h with ⟨a,rfl,h1⟩ | ⟨a,rfl,h1⟩ | h1
 ·rcases Zf8 h1 with ⟨b,rfl,h2⟩ | ⟨b,rfl,h2⟩ | h2
  ·exact Yw5 rfl h2
  ·exact Yw5 rfl h2
  ·exact Za7 _ _ _ _ h2
 ·rcases Zf8 h1 with ⟨b,rfl,h2⟩ | ⟨b,rfl,h2⟩ | h2
  ·exact Yw5 rfl h2
  ·exact Yw5 rfl h2
  ·exact Za7 _ _ _ _ h2
 ·exact Za7 _ _ _ _ h1
theorem Yo1 (op:BinOp):BOk ys op (Yyi ys op):=by
 cases op with
 | add=>exact Yo9
 | sub=>exact Yo3
 | mul=>exact Yo8
 | quo=>exact Yo7
 | rem=>exact Yo6
 | and=>exact Zq9 fun _ _ _=>by rename_i j _ _; cases j <;> rfl
 | or=>exact Zq9 fun _ _ _=>by rename_i j _ _; cases j <;> rfl
 | xor=>exact Zq9 fun _ _ _=>by rename_i j _ _; cases j <;> rfl
 | shl=>exact Yo5
 | shr=>exact Yo4
 | andNot=>exact Za7 _
 | eql=>exact Zia (fun _ _=>rfl) (fun _ _=>rfl)
 | neq=>exact Zia (fun _ _=>rfl) (fun _ _=>rfl)
 | lss=>exact Zia (fun a b=>congrArg mkB (Zfk a b)) (fun a b=>congrArg mkB (Zfk a b))
 | leq=>exact Zia (fun a b=>by show mkB (Zdp (ltI (.ofNat b) (.ofNat a)))=_; rw [Zfk,Zrw]) (fun a b=>by show mkB (Zdp (ltI (.ofNat b) (.ofNat a)))=_; rw [Zfk,Zrw])
 | gtr=>exact Zia (fun a b=>congrArg mkB (Zfk b a)) (fun a b=>congrArg mkB (Zfk b a))
 | geq=>exact Zia (fun a b=>by show mkB (Zdp (ltI (.ofNat a) (.ofNat b)))=_; rw [Zfk,Zrw]; rfl) (fun a b=>by show mkB (Zdp (ltI (.ofNat a) (.ofNat b)))=_; rw [Zfk,Zrw]; rfl)
end
end Go.Rn
namespace Go.Rn
attribute [local irreducible] Zla CT9 Zix Zfh
section
variable {ys:Ys} {fl:Nat}
/-! pure operations -/
theorem Ytj {x:RO} {g:G3} (hg:GOk g fun t=>ev t x):POk ys (pMv g) (.mv x):=fun t3 t c hF h=>by
 obtain ⟨h1,h2⟩:=Zfd (hg _ _ _ hF h)
 exact ⟨_,fun cl fl lim h n=>Zck h1,h2⟩
theorem Ydp {x y z:RO} {c a b:G3} (hc:GOk c fun t=>ev t x) (ha:GOk a fun t=>ev t y) (hb:GOk b fun t=>ev t z):POk ys (Yh6 c a b) (.pick x y z):=fun t3 t k hF h=>by
 obtain ⟨q,e,h1⟩:=Zmd (hc _ _ _ hF h)
 have e:ev t x=.b q:=e
 rcases Zaw h1 with ⟨rfl,h2⟩ | ⟨rfl,h2⟩
 ·obtain ⟨h3,h4⟩:=Zfd (ha _ _ _ hF h2)
  refine ⟨_,fun cl fl lim h n=>?_,h4⟩
  show gB (SR.bad [3]) (ev t x) (fun q=>okV (bf q (ev t y) (ev t z)) h n 2)=_
  rw [e]
  exact Zck h3
 ·obtain ⟨h3,h4⟩:=Zfd (hb _ _ _ hF h2)
  refine ⟨_,fun cl fl lim h n=>?_,h4⟩
  show gB (SR.bad [3]) (ev t x) (fun q=>okV (bf q (ev t y) (ev t z)) h n 2)=_
  rw [e]
  exact Zck h3
theorem Yti {x:RO} {g:G3} (hg:GOk g fun t=>ev t x):POk ys (pNc g) (.nc x):=fun t3 t c hF h=>by
 obtain ⟨h1,h2⟩:=Yvp (hg _ _ _ hF h)
 refine ⟨ev t x,fun cl fl lim h n=>?_,h2⟩
 show gP (gF (SR.bad [16]) (ev t x) fun f c=>bf (Nat.ble 33554432 f) (gN (.bad [186]) c (.bad [187]) fun _ _=>.ok (.fn f c) h n) (.ok (.fn f c) h n)) (ev t x) (fun b o=>SR.ok (.p b o) h n)=_
 rcases h1 with ⟨b,o,e⟩ | ⟨f,c,e,h3⟩
 ·have e:=e; simp only at e; rw [e]; rfl
 ·have e:=e
  simp only at e
  rw [e]
  show bf (Nat.ble 33554432 f) (gN (SR.bad [186]) c (.bad [187]) fun _ _=>.ok (.fn f c) h n) (.ok (.fn f c) h n)=_
  cases hb:Nat.ble 33554432 f with
  | false=>rfl
  | true=>obtain ⟨a,r,rfl⟩:=h3 hb; rfl
theorem Yf3 {z:RV} {two:Bool} {k:RV->A} (h:Good (taN z two k)):∃ v,(∀ h n,Yao z two h n=.ok v h n)/\Good (k v):=by
 obtain ⟨rfl,h1⟩:=Za2 h
 obtain ⟨h2,h3⟩:=Zcs h1
 exact ⟨_,fun h n=>Zb0 (d:=SR.bad [181]) (k:=fun z=>SR.ok (.tup (.cons z (.cons (.b false) .nil))) h n) h2,h3⟩
theorem Ysu {two:Bool} {u:RV} {k:RV->A} (h:Good (taY two u k)):∃ v,(∀ h n,Zvn two u h n=.ok v h n)/\Good (k v):=by
 obtain ⟨h2,h3⟩:=Zcs h
 rcases Zaw h3 with ⟨rfl,h4⟩ | ⟨rfl,h4⟩
 ·exact ⟨_,fun h n=>Zb0 (d:=SR.bad [183]) (k:=fun v=>SR.ok (.tup (.cons v (.cons (.b true) .nil))) h n) h2,h4⟩
 ·exact ⟨_,fun h n=>Zb0 (d:=SR.bad [183]) (k:=fun v=>SR.ok v h n) h2,h4⟩
theorem Ys9 {ty:Nat} {z:RV} {two:Bool} {x:RO} {g:G3} (hg:GOk g fun t=>ev t x):POk ys (pTa ty z two g) (.ta ty z two x):=fun t3 t c hF h=>by
 have st:∀ (cl:Cl') (fl lim:Nat) (h:HT) (n:Nat),step (.ta ty z two x) ys cl fl lim t h n=gIf (.bad [180]) (ev t x) (Yao z two h n) (fun f v=>bf (Nat.beq f (Nat.add 33554432 ty)) (Zvn two v h n) (Yao z two h n)):=fun _ _ _ _ _=>rfl
 obtain ⟨f,hf,h1⟩:=Yhj (hg _ _ _ hF h)
 rcases h1 with ⟨e,h2⟩ | ⟨y,e,h2⟩
 ·have e:ev t x=.fn f .nil:=e
  obtain ⟨v,h3,h4⟩:=Yf3 h2
  exact ⟨v,fun cl fl lim h n=>by rw [st,e,Yoj hf]; exact h3 h n,h4⟩
 ·have e:ev t x=.fn f (.cons .nil (.cons y .nil)):=e
  rcases Zaw h2 with ⟨hb,h3⟩ | ⟨hb,h3⟩
  ·obtain ⟨v,h4,h5⟩:=Ysu h3
   exact ⟨v,fun cl fl lim h n=>by rw [st,e,Zw4 hf,hb]; exact h4 h n,h5⟩
  ·obtain ⟨v,h4,h5⟩:=Yf3 h3
   exact ⟨v,fun cl fl lim h n=>by rw [st,e,Zw4 hf,hb]; exact h4 h n,h5⟩
theorem Yl3 {op:BinOp} {f:RV->RV->(RV->A)->A} (hf:BOk ys op f) {x y:RO} {a b:G3} (ha:GOk a fun t=>ev t x) (hb:GOk b fun t=>ev t y):POk ys (Yx0 f a b) (.bn op x y):=fun t3 t c hF h=>by
 obtain ⟨h1,h2⟩:=hf _ _ _ (hb _ _ _ hF (ha _ _ _ hF h))
 exact ⟨_,fun cl fl lim h n=>Zck h1,h2⟩
theorem Ytv {neg:Bool} {x y:RO} {a b:G3} (ha:GOk a fun t=>ev t x) (hb:GOk b fun t=>ev t y):POk ys (pBq neg a b) (.bq neg x y):=fun t3 t c hF h=>by
 obtain ⟨q,e1,h1⟩:=Zmd (ha _ _ _ hF h)
 obtain ⟨r,e2,h2⟩:=Zmd (hb _ _ _ hF h1)
 have e1:ev t x=.b q:=e1
 have e2:ev t y=.b r:=e2
 refine ⟨_,fun cl fl lim h n=>?_,Zez h2⟩
 show gB (SR.bad [18]) (ev t x) (fun a=>gB (SR.bad [19]) (ev t y) fun b=>SR.ok (mkB (eqB neg (Zdp (eqB a b)))) h n)=_
 rw [e1,e2]
 rfl
theorem Ytg {kd:Nat} {neg:Bool} {x y:RO} {a b:G3} (ha:GOk a fun t=>ev t x) (hb:GOk b fun t=>ev t y):POk ys (pNq kd neg a b) (.nq kd neg x y):=fun t3 t c hF h=>by
 obtain ⟨q,u,e1,h1⟩:=Zyz (ha _ _ _ hF h)
 obtain ⟨r,w,e2,h2⟩:=Zyz (hb _ _ _ hF h1)
 obtain ⟨h3,h4⟩:=Za2 h2
 obtain ⟨h5,h6⟩:=Za2 h4
 have e1:Zk3 (ev t x)=some (q,u):=e1
 have e2:Zk3 (ev t y)=some (r,w):=e2
 have key:∀ h n,Yp0 kd neg x y ys (fun _ _ _ _ _=>SR.bad []) 0 0 t h n=bf w (SR.ok (mkB (eqB neg (Zdp u))) h n) (bf u (SR.ok (mkB neg) h n) (SR.bad [22])):=fun h n=>by
  show gO (SR.bad [20]) (Zk3 (ev t x)) (fun a=>gO (SR.bad [21]) (Zk3 (ev t y)) fun b=>bf (bf (Nat.beq a.1 kd) (Nat.beq b.1 kd) false) (bf b.2 (SR.ok (mkB (eqB neg (Zdp a.2))) h n) (bf a.2 (SR.ok (mkB neg) h n) (SR.bad [22]))) (SR.bad [23]))=_
  rw [e1,e2]
  show bf (bf (Nat.beq q kd) (Nat.beq r kd) false) _ _=_
  rw [h3,h5]
  rfl
 rcases Zaw h6 with ⟨rfl,h7⟩ | ⟨rfl,h7⟩
 ·exact ⟨_,fun cl fl lim h n=>key h n,Zez h7⟩
 ·obtain ⟨rfl,h8⟩:=Za2 h7
  exact ⟨_,fun cl fl lim h n=>key h n,Zez h8⟩
theorem Ytc {ks:List Nat} {neg:Bool} {x y:RO} {a b:G3} (ha:GOk a fun t=>ev t x) (hb:GOk b fun t=>ev t y):POk ys (pSe ys ks neg a b) (.se ks neg x y):=fun t3 t c hF h=>by
 rcases Zaw h with ⟨hi,h⟩ | ⟨hi,h⟩
 ·obtain ⟨u,e3,h4⟩:=Zmd (hb _ _ _ hF (ha _ _ _ hF h))
  have e3:Yps (tlN ks) (ev t x) (ev t y)=.b u:=e3
  refine ⟨_,fun cl fl lim h n=>?_,Zez h4⟩
  show bf (Yfo ks) (gB (SR.bad [123]) (Yps (tlN ks) (ev t x) (ev t y)) fun r=>SR.ok (mkB (eqB neg (Zdp r))) h n) _=_
  rw [hi,e3]
  rfl
 obtain ⟨q,e1,h1⟩:=Zwh (ha _ _ _ hF h)
 obtain ⟨r,e2,h2⟩:=Zwh (hb _ _ _ hF h1)
 obtain ⟨u,e3,h4⟩:=Zmd h2
 have e1:ev t x=.agg q:=e1
 have e2:ev t y=.agg r:=e2
 refine ⟨_,fun cl fl lim h n=>?_,Zez h4⟩
 show bf (Yfo ks) _ (gA (SR.bad [120]) (ev t x) (fun c=>gA (SR.bad [121]) (ev t y) fun d=>gB (SR.bad [122]) (Zog ys ks c d) fun r=>SR.ok (mkB (eqB neg (Zdp r))) h n))=_
 rw [hi,e1,e2]
 show gB (SR.bad [122]) (Zog ys ks q r) (fun r=>SR.ok (mkB (eqB neg (Zdp r))) h n)=_
 rw [e3]
 rfl
theorem Yth {x:RO} {g:G3} (hg:GOk g fun t=>ev t x):POk ys (pNg g) (.ng x):=fun t3 t c hF h=>by
 rcases Xa4 (hg _ _ _ hF h) with ⟨j,z,e,h1⟩ | ⟨j,z,e,h1⟩
 ·have e:ev t x=.i j z:=e
  obtain ⟨h2,h3⟩:=Zcs h1
  refine ⟨_,fun cl fl lim h n=>?_,h3⟩
  show gI _ (ev t x) (fun k a=>okV (arI .sub k 0 a) h n 24)=_
  rw [e]
  exact Zck h2
 ·have e:ev t x=.y j z:=e
  refine ⟨_,fun cl fl lim h n=>?_,h1⟩
  show gI (gY (SR.bad [24]) (ev t x) fun k e=>SR.ok (.y k (.sub k (.c 0) e)) h n) (ev t x) (fun k a=>okV (arI .sub k 0 a) h n 24)=_
  rw [e]
  rfl
theorem Ytf {x:RO} {g:G3} (hg:GOk g fun t=>ev t x):POk ys (pNt g) (.nt x):=fun t3 t c hF h=>by
 obtain ⟨q,e,h1⟩:=Zmd (hg _ _ _ hF h)
 have e:ev t x=.b q:=e
 refine ⟨_,fun cl fl lim h n=>?_,Zez h1⟩
 show gB (SR.bad [25]) (ev t x) (fun a=>SR.ok (mkB (Zdp a)) h n)=_
 rw [e]
 rfl
def VOk (j:IntKind) (f:RV->(RV->A)->A):Prop:=∀ x k,Good (f x k)->∃ i z,x=.i i z/\Zc7 j z ≠ .un/\Good (k (Zc7 j z))
theorem Zc3 (j:IntKind):VOk j (Zgl j):=fun x k h=>by
 obtain ⟨i,z,rfl,h1⟩:=Yih h
 obtain ⟨h2,h3⟩:=Zcs h1
 exact ⟨i,z,rfl,h2,h3⟩
theorem cvI {i:IntKind} {m:Nat} {k:RV->A} (h:Good (Zut m k (Zgl .i64 (.i i (.ofNat m)) k))):∃ i' z,(RV.i i (.ofNat m))=.i i' z/\Zc7 .i64 z ≠ .un/\Good (k (Zc7 .i64 z)):=by
 rcases Zgv h with ⟨h1,h2⟩ | h1
 ·refine ⟨i,.ofNat m,rfl,?_⟩
  rw [Zfm h1]
  exact ⟨Zof,h2⟩
 ·exact Zc3 _ _ _ h1
theorem cvU {i:IntKind} {m:Nat} {k:RV->A} (h:Good (Ypt m k (Zgl .u64 (.i i (.ofNat m)) k))):∃ i' z,(RV.i i (.ofNat m))=.i i' z/\Zc7 .u64 z ≠ .un/\Good (k (Zc7 .u64 z)):=by
 rcases Zq8 h with ⟨h1,h2⟩ | h1
 ·refine ⟨i,.ofNat m,rfl,?_⟩
  rw [Zhp,Nat.mod_eq_of_lt (by omega)]
  exact ⟨Zof,h2⟩
 ·exact Zc3 _ _ _ h1
theorem Yow:VOk .i64 (cvF .i64):=fun x k h=>by
 rcases Zf8 h with ⟨m,rfl,h1⟩ | ⟨m,rfl,h1⟩ | h1
 ·exact cvI h1
 ·exact cvI h1
 ·exact Zc3 _ _ _ h1
theorem Ye6:VOk .u64 (cvF .u64):=fun x k h=>by
 rcases Zf8 h with ⟨m,rfl,h1⟩ | ⟨m,rfl,h1⟩ | h1
 ·exact cvU h1
 ·exact cvU h1
 ·exact Zc3 _ _ _ h1
theorem Yu7 (j:IntKind):VOk j (cvF j):=by
 cases j with
 | i64=>exact Yow
 | u64=>exact Ye6
 | i8=>exact Zc3 _
 | i16=>exact Zc3 _
 | i32=>exact Zc3 _
 | u8=>exact Zc3 _
 | u16=>exact Zc3 _
 | u32=>exact Zc3 _
theorem Ytt {j:IntKind} {x:RO} {g:G3} (hg:GOk g fun t=>ev t x):POk ys (pCv (cvF j) g) (.cv j x):=fun t3 t c hF h=>by
 obtain ⟨i,z,e,h2,h3⟩:=Yu7 j _ _ (hg _ _ _ hF h)
 have e:ev t x=.i i z:=e
 refine ⟨_,fun cl fl lim h n=>?_,h3⟩
 show gI (SR.bad [26]) (ev t x) (fun _ a=>okV (Zc7 j a) h n 26)=_
 rw [e]
 exact Zck h2
theorem Ytl {f:Nat} {cs:List RO} {g:G3} (hg:COk g fun t=>evL t cs):POk ys (pMf f g) (.mf f cs):=fun t3 t c hF h=>by
 obtain ⟨h1,h2⟩:=hg _ _ _ hF h
 exact ⟨_,fun cl fl lim h n=>Zb0 (d:=SR.bad [27]) (k:=fun c=>SR.ok (.fn f c) h n) h1,h2⟩
theorem Yok {v:RV} {k:RV->A} (h:Good (Xhi v k)):Good (k v):=by
 cases v with
 | su b o l e=>exact Zat (k:=fun e=>k (.su b o l e)) (Zat (k:=fun l=>frc e fun e=>k (.su b o l e)) (Zat (k:=fun o=>frc l fun l=>frc e fun e=>k (.su b o l e)) h))
 | _=>exact h
theorem Ytd {es:Nat} {x:RO} {lo hi:Option RO} {g:G3} {a b:F3->Nat->(Nat->A)->A} (hg:GOk g fun t=>ev t x) (ha:NOk a lo) (hb:NOk b hi):POk ys (pSc es g a b) (.sc es x lo hi none):=fun t3 t c hF h=>by
 obtain ⟨l,e1,h1⟩:=Zdz (hg _ _ _ hF h)
 obtain ⟨p,e2,h2⟩:=ha _ _ _ _ hF h1
 obtain ⟨q,e3,h3⟩:=hb _ _ _ _ hF h2
 obtain ⟨h4,h5⟩:=Zcs h3
 have e1:Za5 (ev t x)=some l:=e1
 refine ⟨_,fun cl fl lim h n=>?_,Yok h5⟩
 show gO (SR.bad [35]) (Za5 (ev t x)) (fun l=>gO (SR.bad [36]) (Zev t lo 0) fun a=>gO (SR.bad [37]) (Zev t hi l) fun b=>okV (slV es (ev t x) a b none) h n 38)=_
 rw [e1,e2]
 show gO (SR.bad [37]) (Zev t hi l) (fun b=>okV (slV es (ev t x) p b none) h n 38)=_
 rw [e3]
 exact Zck h4
theorem Yl1 {es:Nat} {x y:RO} {lo hi:Option RO} {g:G3} {a b d:F3->Nat->(Nat->A)->A} (hg:GOk g fun t=>ev t x) (ha:NOk a lo) (hb:NOk b hi) (hd:NOk d (some y)):POk ys (Yxy es g a b d) (.sc es x lo hi (some y)):=fun t3 t c hF h=>by
 obtain ⟨l,e1,h1⟩:=Zdz (hg _ _ _ hF h)
 obtain ⟨p,e2,h2⟩:=ha _ _ _ _ hF h1
 obtain ⟨q,e3,h3⟩:=hb _ _ _ _ hF h2
 obtain ⟨m,e4,h6⟩:=hd _ _ _ _ hF h3
 obtain ⟨h4,h5⟩:=Zcs h6
 have e1:Za5 (ev t x)=some l:=e1
 refine ⟨_,fun cl fl lim h n=>?_,h5⟩
 show gO (SR.bad [35]) (Za5 (ev t x)) (fun l=>gO (SR.bad [36]) (Zev t lo 0) fun a=>gO (SR.bad [37]) (Zev t hi l) fun b=>gO (SR.bad [39]) (Zev t (some y) 0) fun m=>okV (slV es (ev t x) a b (some m)) h n 38)=_
 rw [e1,e2]
 show gO (SR.bad [37]) (Zev t hi l) (fun b=>gO (SR.bad [39]) (Zev t (some y) 0) fun m=>okV (slV es (ev t x) p b (some m)) h n 38)=_
 rw [e3]
 show gO (SR.bad [39]) (Zev t (some y) 0) (fun m=>okV (slV es (ev t x) p q (some m)) h n 38)=_
 rw [e4]
 exact Zck h4
theorem Ytb {x:RO} {lo hi:Option RO} {g:G3} {a b:F3->Nat->(Nat->A)->A} (hg:GOk g fun t=>ev t x) (ha:NOk a lo) (hb:NOk b hi):POk ys (pSs g a b) (.ss x lo hi):=fun t3 t c hF h=>by
 obtain ⟨l,e1,h1⟩:=Ybe (hg _ _ _ hF h)
 obtain ⟨p,e2,h2⟩:=ha _ _ _ _ hF (Zat h1)
 obtain ⟨q,e3,h3⟩:=hb _ _ _ _ hF h2
 obtain ⟨h4,h5⟩:=Za2 h3
 obtain ⟨h6,h7⟩:=Za2 h5
 have h8:=Zmy h7
 have e1:ev t x=.s l:=e1
 refine ⟨_,fun cl fl lim h n=>?_,h8⟩
 show gS (SR.bad [40]) (ev t x) (fun l=>gO (SR.bad [41]) (Zev t lo 0) fun a=>gO (SR.bad [42]) (Zev t hi l.length) fun b=>bf (Nat.ble a b) (bf (Nat.ble b l.length) (SR.ok (.s ((l.take b).drop a)) h n) (SR.bad [43])) (SR.bad [44]))=_
 rw [e1,e2]
 show gO (SR.bad [42]) (Zev t hi l.length) (fun b=>bf (Nat.ble p b) (bf (Nat.ble b l.length) (SR.ok (.s ((l.take b).drop p)) h n) (SR.bad [43])) (SR.bad [44]))=_
 rw [e3]
 show bf (Nat.ble p q) (bf (Nat.ble q l.length) (SR.ok (.s ((l.take q).drop p)) h n) (SR.bad [43])) (SR.bad [44])=_
 rw [h4,h6]
 rfl
theorem Yte {m es:Nat} {x:RO} {lo hi:Option RO} {g:G3} {a b:F3->Nat->(Nat->A)->A} (hg:GOk g fun t=>ev t x) (ha:NOk a lo) (hb:NOk b hi):POk ys (pSa m es g a b) (.sa m es x lo hi):=fun t3 t c hF h=>by
 obtain ⟨i,o,e1,h1⟩:=Zoq (hg _ _ _ hF h)
 obtain ⟨p,e2,h2⟩:=ha _ _ _ _ hF h1
 obtain ⟨q,e3,h3⟩:=hb _ _ _ _ hF h2
 obtain ⟨h4,h5⟩:=Zcs h3
 have e1:ev t x=.p i o:=e1
 refine ⟨_,fun cl fl lim h n=>?_,h5⟩
 show gP (SR.bad [45]) (ev t x) (fun b o=>gO (SR.bad [46]) (Zev t lo 0) fun a=>gO (SR.bad [47]) (Zev t hi m) fun e=>okV (slK es b o a e m) h n 48)=_
 rw [e1,e2]
 show gO (SR.bad [47]) (Zev t hi m) (fun e=>okV (slK es i o p e m) h n 48)=_
 rw [e3]
 exact Zck h4
theorem Ytr {off:Nat} {x:RO} {g:G3} (hg:GOk g fun t=>ev t x):POk ys (pFa off g) (.fa off x):=fun t3 t c hF h=>by
 obtain ⟨b,o,e,h1⟩:=Zoq (hg _ _ _ hF h)
 have e:ev t x=.p b o:=e
 refine ⟨_,fun cl fl lim h n=>?_,Zat h1⟩
 show gP (SR.bad [49]) (ev t x) (fun b o=>SR.ok (.p b (Nat.add o off)) h n)=_
 rw [e]
 rfl
theorem Ytq {ag:Bool} {off m:Nat} {x:RO} {g:G3} (hg:GOk g fun t=>ev t x):POk ys (pFd ag off m g) (.fd ag off m x):=fun t3 t c hF h=>by
 obtain ⟨q,e,h1⟩:=Zwh (hg _ _ _ hF h)
 obtain ⟨v,h2,h3⟩:=Znr h1
 have e:ev t x=.agg q:=e
 refine ⟨_,fun cl fl lim h n=>?_,h3⟩
 show gA (SR.bad [52]) (ev t x) (fun c=>Zh1 ag c off m h n)=_
 rw [e]
 exact h2 h n
theorem Zw1 {es b o l a:Nat} {k:RV->A} (h:Good (iaK es b o l a k)):Nat.ble (a + 1) l=true/\Good (k (.p b (o + a * es))):=by
 obtain ⟨h1,h2⟩:=Za2 h
 exact ⟨h1,Zat (k:=fun o=>k (.p b o)) h2⟩
theorem Zoy {v:RV} {j:IntKind} {a l:Nat} {k:Nat->SR} (e:v=.i j (.ofNat a)) (h:Nat.ble (a + 1) l=true):ixN v l k=k a:=by
 subst e
 show bf (Nat.ble (a + 1) l) (k a) _=_
 rw [h]
 rfl
theorem Ytp {es:Nat} {x i:RO} {g f:G3} (hg:GOk g fun t=>ev t x) (hf:GOk f fun t=>ev t i):POk ys (pIa es g f) (.ia es x i):=fun t3 t c hF h=>by
 obtain ⟨j,a,e2,h1⟩:=Zwg (hf _ _ _ hF (hg _ _ _ hF h))
 have e2:ev t i=.i j (.ofNat a):=e2
 rcases Zqi h1 with ⟨_,h2⟩ | ⟨b,o,l,q,e1,h2⟩ | ⟨b,o,l,q,e1,h2⟩ | ⟨_,_,_,h2⟩
 ·exact Good.no h2
 ·obtain ⟨h3,h4⟩:=Zw1 h2
  have e1:ev t x=.sl b o l q:=e1
  refine ⟨_,fun cl fl lim h n=>?_,h4⟩
  show gL (SR.bad [56]) (ev t x) (SR.bad [57]) (fun b o l _=>ixN (ev t i) l fun a=>SR.ok (.p b (Nat.add o (Nat.mul a es))) h n) (fun b o l _=>ixN (ev t i) l fun a=>SR.ok (.p b (Nat.add o (Nat.mul a es))) h n) (fun _ _=>SR.bad [58])=_
  rw [e1]
  show ixN (ev t i) l (fun a=>SR.ok (.p b (Nat.add o (Nat.mul a es))) h n)=_
  exact Zoy e2 h3
 ·obtain ⟨h3,h4⟩:=Zw1 h2
  have e1:ev t x=.su b o l q:=e1
  refine ⟨_,fun cl fl lim h n=>?_,h4⟩
  show gL (SR.bad [56]) (ev t x) (SR.bad [57]) (fun b o l _=>ixN (ev t i) l fun a=>SR.ok (.p b (Nat.add o (Nat.mul a es))) h n) (fun b o l _=>ixN (ev t i) l fun a=>SR.ok (.p b (Nat.add o (Nat.mul a es))) h n) (fun _ _=>SR.bad [58])=_
  rw [e1]
  show ixN (ev t i) l (fun a=>SR.ok (.p b (Nat.add o (Nat.mul a es))) h n)=_
  exact Zoy e2 h3
 ·exact Good.no h2
theorem Yto {m es:Nat} {x i:RO} {g f:G3} (hg:GOk g fun t=>ev t x) (hf:GOk f fun t=>ev t i):POk ys (pIp m es g f) (.ip m es x i):=fun t3 t c hF h=>by
 obtain ⟨j,a,e2,h1⟩:=Zwg (hf _ _ _ hF (hg _ _ _ hF h))
 have e2:ev t i=.i j (.ofNat a):=e2
 obtain ⟨b,o,e1,h2⟩:=Zoq h1
 obtain ⟨h3,h4⟩:=Zw1 h2
 have e1:ev t x=.p b o:=e1
 refine ⟨_,fun cl fl lim h n=>?_,h4⟩
 show gP (SR.bad [59]) (ev t x) (fun b o=>ixN (ev t i) m fun a=>SR.ok (.p b (Nat.add o (Nat.mul a es))) h n)=_
 rw [e1]
 show ixN (ev t i) m (fun a=>SR.ok (.p b (Nat.add o (Nat.mul a es))) h n)=_
 exact Zoy e2 h3
theorem Ytn {ag:Bool} {m es:Nat} {x i:RO} {g f:G3} (hg:GOk g fun t=>ev t x) (hf:GOk f fun t=>ev t i):POk ys (pIx ag m es g f) (.ix ag m es x i):=fun t3 t c hF h=>by
 obtain ⟨j,a,e2,h1⟩:=Zwg (hf _ _ _ hF (hg _ _ _ hF h))
 have e2:ev t i=.i j (.ofNat a):=e2
 obtain ⟨q,e1,h2⟩:=Zwh h1
 obtain ⟨h3,h4⟩:=Za2 h2
 obtain ⟨v,h5,h6⟩:=Znr (Zat (r:=Nat.mul a es) (k:=fun o=>Zvp ag q o es c) h4)
 have e1:ev t x=.agg q:=e1
 refine ⟨_,fun cl fl lim h n=>?_,h6⟩
 show gA (SR.bad [60]) (ev t x) (fun c=>ixN (ev t i) m fun a=>Zh1 ag c (Nat.mul a es) es h n)=_
 rw [e1]
 show ixN (ev t i) m (fun a=>Zh1 ag q (Nat.mul a es) es h n)=_
 exact (Zoy e2 h3).trans (h5 h n)
theorem Yta {x i:RO} {g f:G3} (hg:GOk g fun t=>ev t x) (hf:GOk f fun t=>ev t i):POk ys (pSx g f) (.sx x i):=fun t3 t c hF h=>by
 obtain ⟨j,a,e2,h1⟩:=Zwg (hf _ _ _ hF (hg _ _ _ hF h))
 have e2:ev t i=.i j (.ofNat a):=e2
 obtain ⟨l,e1,h2⟩:=Ybe h1
 obtain ⟨h3,q,h4,h5⟩:=Zx1 h2
 have e1:ev t x=.s l:=e1
 refine ⟨_,fun cl fl lim h n=>?_,h5⟩
 show gS (SR.bad [61]) (ev t x) (fun l=>ixN (ev t i) l.length fun a=>gO (SR.bad [62]) l[a]? fun c=>SR.ok (.i .u8 (Int.ofNat c)) h n)=_
 rw [e1]
 show ixN (ev t i) l.length (fun a=>gO (SR.bad [62]) l[a]? fun c=>SR.ok (.i .u8 (Int.ofNat c)) h n)=_
 refine (Zoy e2 (Nat.ble_eq_true_of_le h3)).trans ?_
 show gO (SR.bad [62]) l[a]? (fun c=>SR.ok (.i .u8 (Int.ofNat c)) h n)=_
 rw [h4]
 rfl
theorem Yts {j:Nat} {x:RO} {g:G3} (hg:GOk g fun t=>ev t x):POk ys (pEx j g) (.ex j x):=fun t3 t c hF h=>by
 obtain ⟨q,e,h1⟩:=Xa5 (hg _ _ _ hF h)
 obtain ⟨h2,h3⟩:=Zw8 h1
 have e:ev t x=.tup q:=e
 refine ⟨_,fun cl fl lim h n=>?_,h3⟩
 show gT (SR.bad [63]) (ev t x) (fun c=>okV (Zdi c j) h n 64)=_
 rw [e]
 exact Zck h2
theorem okI (m:Nat) (h:HT) (n w:Nat):okV (mkI .i64 (Int.ofNat m)) h n w=SR.ok (.i .i64 (.ofNat m)) h n:=by rw [Zdx]; rfl
theorem Yl2 {x:RO} {g:G3} (hg:GOk g fun t=>ev t x):POk ys (Yxz g) (.ln true x):=fun t3 t c hF h=>by
 obtain ⟨l,e,h1⟩:=Ybe (hg _ _ _ hF h)
 have e:ev t x=.s l:=e
 refine ⟨_,fun cl fl lim h n=>?_,Zat h1⟩
 show gS (SR.bad [68]) (ev t x) (fun l=>okV (mkI .i64 (Int.ofNat l.length)) h n 69)=_
 rw [e]
 exact okI _ _ _ _
theorem Ytm {x:RO} {g:G3} (hg:GOk g fun t=>ev t x):POk ys (pLn g) (.ln false x):=fun t3 t c hF h=>by
 obtain ⟨l,e,h1⟩:=Zdz (hg _ _ _ hF h)
 have e:Za5 (ev t x)=some l:=e
 refine ⟨_,fun cl fl lim h n=>?_,h1⟩
 show gO (Zvq ys (ev t x) h n) (Za5 (ev t x)) (fun l=>okV (mkI .i64 (Int.ofNat l)) h n 69)=_
 rw [e]
 exact okI _ _ _ _
theorem Ytu {x:RO} {g:G3} (hg:GOk g fun t=>ev t x):POk ys (pCp g) (.cp x):=fun t3 t c hF h=>by
 rcases Zqi (hg _ _ _ hF h) with ⟨e,h2⟩ | ⟨b,o,l,q,e,h2⟩ | ⟨b,o,l,q,e1,h2⟩ | ⟨_,_,_,h2⟩
 ·have e:ev t x=.ns:=e
  refine ⟨_,fun cl fl lim h n=>?_,h2⟩
  show gL (SR.bad [70]) (ev t x) (SR.ok (.i .i64 (Int.ofNat 0)) h n) (fun _ _ _ c=>SR.ok (.i .i64 (Int.ofNat c)) h n) (fun _ _ _ _=>SR.bad [71]) (fun _ _=>SR.bad [72])=_
  rw [e]
  rfl
 ·have e:ev t x=.sl b o l q:=e
  refine ⟨_,fun cl fl lim h n=>?_,h2⟩
  show gL (SR.bad [70]) (ev t x) (SR.ok (.i .i64 (Int.ofNat 0)) h n) (fun _ _ _ c=>SR.ok (.i .i64 (Int.ofNat c)) h n) (fun _ _ _ _=>SR.bad [71]) (fun _ _=>SR.bad [72])=_
  rw [e]
  rfl
 ·exact Good.no h2
 ·exact Good.no h2
theorem Ytk {mx:Bool} {x y:RO} {a b:G3} (ha:GOk a fun t=>ev t x) (hb:GOk b fun t=>ev t y):POk ys (pMm mx a b) (.mm mx x y):=fun t3 t c hF h=>by
 obtain ⟨j,u,e1,h1⟩:=Yih (hb _ _ _ hF (ha _ _ _ hF h))
 obtain ⟨i,w,e2,h2⟩:=Yih h1
 obtain ⟨h3,h4⟩:=Za2 h2
 obtain ⟨h5,h6⟩:=Zcs h4
 have e1:ev t x=.i j u:=e1
 have e2:ev t y=.i i w:=e2
 refine ⟨_,fun cl fl lim h n=>?_,h6⟩
 show gI (SR.bad [80]) (ev t x) (fun k a=>gI (SR.bad [81]) (ev t y) fun j b=>bf (eqK k j) (okV (mkI k (bf (bf mx (ltI a b) (ltI b a)) b a)) h n 82) (SR.bad [83]))=_
 rw [e1,e2]
 show bf (eqK j i) _ _=_
 rw [h3]
 exact Zck h5
end
end Go.Rn
