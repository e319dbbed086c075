/-
  One text of a symbolic evaluator over the model, shown sound once for every program: no statement is claimed here.
-/
import Derived.Test.YthfaoceleaaepaaGreatDoorRqF
namespace Go.Rn
attribute [local irreducible] HT10 CT9 RelC9 RelH10
section
variable {ys:Ys} {fl:Nat}
def LIM:Nat:=1152921504606846976
def POk (ys:Ys) (f:P3) (o:RP):Prop:=∀ t3 t c,FR t3 t→Good (f t3 c)→∃ v,(∀ cl fl lim h n,step o ys cl fl lim t h n=.ok v h n)∧Good (c v)
def ClSim (fl:Nat) (cl3:Cl3) (cl:Cl'):Prop:=∀ f a h3 h n k,HRel h3 h→Good (cl3 f a h3 n k)→∃ v h' n' h3',cl f a fl h n=.ok v h' n'∧HRel h3' h'∧Good (k v h3' n')
def EOk (ys:Ys) (fl:Nat) (f:E3) (o:RP):Prop:=∀ cl3 cl t3 t h3 h n c,ClSim fl cl3 cl→FR t3 t→HRel h3 h→Good (f cl3 t3 h3 n c)→∃ v h' n' h3',step o ys cl fl LIM t h n=.ok v h' n'∧HRel h3' h'∧Good (c v h3' n')
def OwOk (ys:Ys) (fl:Nat) (w:Ow) (o:RP):Prop:=match w with | .p f=>POk ys f o | .e f=>EOk ys fl f o | .no=>True
theorem ropW_ok (x:RO):∃ g,ropW x=.mk g∧GOk g fun t=>ev t x:=by
 cases x with
 | t p=>exact getP_ok p
 | c v=>exact ⟨_,rfl,fun _ _ _ _ h=>h⟩
theorem g1_ok {x:RO} {f:G3→Ow} {o:RP} (h:∀ g,GOk g (fun t=>ev t x)→OwOk ys fl (f g) o):OwOk ys fl (g1 x f) o:=by
 obtain ⟨g,e,hg⟩:=ropW_ok x
 unfold g1
 rw [e]
 exact h g hg
theorem g2_ok {x y:RO} {f:G3→G3→Ow} {o:RP} (h:∀ a b,GOk a (fun t=>ev t x)→GOk b (fun t=>ev t y)→OwOk ys fl (f a b) o):OwOk ys fl (g2 x y f) o:=
 g1_ok fun a ha=>g1_ok fun b hb=>h a b ha hb
theorem kons_of {x r:RV} (h1:x ≠ .un) (h2:r ≠ .un):kons x r=.cons x r:=by
 unfold kons
 cases x <;> first | exact absurd rfl h1 | (cases r <;> first | exact absurd rfl h2 | rfl)
theorem nU_of {α:Type} {d:α} {v:RV} {k:RV→α} (h:v ≠ .un):nU d v k=k v:=by cases v <;> first | exact absurd rfl h | rfl
theorem okV_of {v:RV} {h:HT} {n w:Nat} (e:v ≠ .un):okV v h n w=.ok v h n:=nU_of e
def COk (g:G3) (e:FT→RV):Prop:=∀ t3 t c,FR t3 t→Good (g t3 c)→e t ≠ .un∧Good (c (e t))
theorem evw_ok:∀ l:List RO,∃ g,evw l=.mk g∧COk g fun t=>evL t l
 | []=>⟨_,rfl,fun _ _ _ _ h=>⟨by show RV.nil ≠ .un; simp,h⟩⟩
 | x::l=>by
  obtain ⟨r,e1,h1⟩:=evw_ok l
  obtain ⟨g,e2,h2⟩:=ropW_ok x
  refine ⟨consW g r,?_,?_⟩
  ·show @Gw.rec (fun _=>Gw) (fun r=>@Gw.rec (fun _=>Gw) (fun g=>.mk (consW g r)) (ropW x)) (evw l)=_
   rw [e1,e2]
  ·intro t3 t c hF h
   obtain ⟨h3,h4⟩:=cU_ok (h2 _ _ _ hF h)
   obtain ⟨h5,h6⟩:=h1 _ _ _ hF h4
   show kons (ev t x) (evL t l) ≠ .un∧Good (c (kons (ev t x) (evL t l)))
   rw [kons_of h3 h5]
   exact ⟨by simp,h6⟩
theorem gl_ok {l:List RO} {f:G3→Ow} {o:RP} (h:∀ g,COk g (fun t=>evL t l)→OwOk ys fl (f g) o):OwOk ys fl (gl l f) o:=by
 obtain ⟨g,e,hg⟩:=evw_ok l
 unfold gl
 rw [e]
 exact h g hg
def NOk (f:F3→Nat→(Nat→A)→A) (x:Option RO):Prop:=∀ t3 t d c,FR t3 t→Good (f t3 d c)→∃ m,optN t x d=some m∧Good (c m)
theorem optW_ok (x:Option RO):∃ f,optW x=.mk f∧NOk f x:=by
 cases x with
 | none=>exact ⟨_,rfl,fun _ _ d _ _ h=>⟨d,rfl,h⟩⟩
 | some x=>
  obtain ⟨g,e,hg⟩:=ropW_ok x
  refine ⟨optN3 g,?_,?_⟩
  ·show @Gw.rec (fun _=>Nw) (fun g=>.mk (optN3 g)) (ropW x)=_
   rw [e]
  ·intro t3 t d c hF h
   obtain ⟨j,m,e1,h1⟩:=cK_ok (hg _ _ _ hF h)
   refine ⟨m,?_,h1⟩
   have e1:ev t x=.i j (.ofNat m):=e1
   show gI none (ev t x) (fun _ n=>bf (nonI n) (some (natI n)) none)=some m
   rw [e1]
   rfl
theorem n1_ok {x:Option RO} {f:(F3→Nat→(Nat→A)→A)→Ow} {o:RP} (h:∀ g,NOk g x→OwOk ys fl (f g) o):OwOk ys fl (n1 x f) o:=by
 obtain ⟨g,e,hg⟩:=optW_ok x
 unfold n1
 rw [e]
 exact h g hg
/-! chains -/
theorem chG_ok:∀ {j:Nat} {c:RV} {k:RV→A},Good (chG j c k)→chGet c j ≠ .un∧Good (k (chGet c j))
 | 0,c,k,h=>by
  obtain ⟨a,r,rfl,h1⟩:=cN_ok h
  exact cU_ok h1
 | j + 1,c,k,h=>by
  obtain ⟨a,r,rfl,h1⟩:=cN_ok h
  exact chG_ok (j:=j) (c:=r) h1
theorem skip3_ok:∀ {j:Nat} {c:RV} {k:RV→A},Good (skip3 j c k)→∃ r,(∀ i,chGet c (j + i)=chGet r i)∧Good (k r)
 | 0,c,k,h=>⟨c,fun i=>by rw [Nat.zero_add],h⟩
 | j + 1,c,k,h=>by
  obtain ⟨a,r,rfl,h1⟩:=cN_ok h
  obtain ⟨q,h2,h3⟩:=skip3_ok (j:=j) (c:=r) h1
  refine ⟨q,fun i=>?_,h3⟩
  rw [← h2 i,show j + 1 + i=(j + i) + 1 by omega]
  rfl
theorem take3_ok:∀ {m:Nat} {r c:RV} {o:Nat} {k:RV→A},(∀ i,chGet c (o + i)=chGet r i)→Good (take3 m r k)→chSub c m o ≠ .un∧Good (k (chSub c m o))
 | 0,r,c,o,k,_,h=>⟨by show RV.nil ≠ .un; simp,h⟩
 | m + 1,r,c,o,k,hc,h=>by
  obtain ⟨a,q,rfl,h1⟩:=cN_ok h
  obtain ⟨h2,h3⟩:=cU_ok h1
  obtain ⟨h4,h5⟩:=take3_ok (m:=m) (r:=q) (c:=c) (o:=o + 1) (fun i=>by rw [show o + 1 + i=o + (i + 1) by omega,hc]; rfl) h3
  have e:chGet c o=a:=by have:=hc 0; rw [Nat.add_zero] at this; rw [this]; rfl
  show kons (chGet c o) (chSub c m (o + 1)) ≠ .un∧Good (k (kons (chGet c o) (chSub c m (o + 1))))
  rw [e,kons_of h2 h4]
  exact ⟨by simp,h5⟩
theorem part3_ok {g:Bool} {c:RV} {off m:Nat} {k:RV→A} (h:Good (part3 g c off m k)):∃ v,(∀ h n,partC g c off m h n=.ok v h n)∧Good (k v):=by
 rcases ifA_ok h with ⟨rfl,h1⟩ | ⟨rfl,h1⟩
 ·obtain ⟨r,h2,h3⟩:=skip3_ok h1
  obtain ⟨h4,h5⟩:=take3_ok h2 h3
  exact ⟨_,fun h n=>nU_of h4,h5⟩
 ·obtain ⟨h2,h3⟩:=chG_ok h1
  exact ⟨_,fun h n=>okV_of h2,h3⟩
theorem frcL_ok:∀ {l:List Nat} {k:List Nat→A},Good (frcL l k)→Good (k l)
 | [],_,h=>h
 | x::l,k,h=>frcL_ok (l:=l) (k:=fun r=>k (x::r)) (frc_ok (r:=x) (k:=fun x=>frcL l fun r=>k (x::r)) h)
theorem nthN_ok:∀ {l:List Nat} {i:Nat} {k:Nat→A},Good (nthN l i k)→i < l.length∧∃ c,l[i]?=some c∧Good (k c)
 | [],_,_,h=>Good.no h
 | x::l,0,_,h=>⟨by simp,x,by simp,h⟩
 | x::l,i + 1,k,h=>by
  obtain ⟨h1,c,h2,h3⟩:=nthN_ok (l:=l) (i:=i) (k:=k) h
  exact ⟨by simp; omega,c,by simpa using h2,h3⟩
/-! numbers -/
def BOk (ys:Ys) (op:BinOp) (f:RV→RV→(RV→A)→A):Prop:=∀ x y k,Good (f x y k)→binV ys op x y ≠ .un∧Good (k (binV ys op x y))
theorem slow_ok (op:BinOp):BOk ys op (slow ys op):=fun _ _ _ h=>cUv_ok h
theorem cM2_ok {x y:RV} {fi fu:Nat→Nat→A} {s:A} (h:Good (cM2 x y fi fu s)):(∃ a b,x=.i .i64 (.ofNat a)∧y=.i .i64 (.ofNat b)∧Good (fi a b)) ∨ (∃ a b,x=.i .u64 (.ofNat a)∧y=.i .u64 (.ofNat b)∧Good (fu a b)) ∨ Good s:=by
 rcases cM_ok h with ⟨a,rfl,h1⟩ | ⟨a,rfl,h1⟩ | h1
 ·rcases cM_ok h1 with ⟨b,rfl,h2⟩ | ⟨b,rfl,h2⟩ | h2
  ·exact .inl ⟨a,b,rfl,rfl,h2⟩
  ·exact .inr (.inr h2)
  ·exact .inr (.inr h2)
 ·rcases cM_ok h1 with ⟨b,rfl,h2⟩ | ⟨b,rfl,h2⟩ | h2
  ·exact .inr (.inr h2)
  ·exact .inr (.inl ⟨a,b,rfl,rfl,h2⟩)
  ·exact .inr (.inr h2)
 ·exact .inr (.inr h1)
theorem mkI_nat (k:IntKind) (m:Nat):mkI k (.ofNat m)=.i k (.ofNat m):=by cases m <;> rfl
theorem wrap_i64 {m:Nat} (h:m≤9223372036854775807):IntKind.wrap .i64 (.ofNat m)=.ofNat m:=by
 simp only [IntKind.wrap,IntKind.bits,IntKind.signed]
 have:(Int.ofNat m)=(m:Int):=rfl
 rw [this]
 simp
 omega
theorem wrap_u64 (m:Nat):IntKind.wrap .u64 (.ofNat m)=.ofNat (m % 18446744073709551616):=by
 simp only [IntKind.wrap,IntKind.bits,IntKind.signed]
 have:(Int.ofNat m)=(m:Int):=rfl
 rw [this]
 simp
theorem wrapI_i64 {m:Nat} (h:m≤9223372036854775807):wrapI .i64 (.ofNat m)=.i .i64 (.ofNat m):=by
 have e:small (.ofNat m)=true:=Nat.ble_eq_true_of_le h
 show bf (small (.ofNat m)) (mkI .i64 (.ofNat m)) (mkI .i64 (IntKind.wrap .i64 (.ofNat m)))=_
 rw [e]
 exact mkI_nat _ _
theorem wrapI_u64 (m:Nat):wrapI .u64 (.ofNat m)=.i .u64 (.ofNat (m % 18446744073709551616)):=by
 show mkI .u64 (IntKind.wrap .u64 (.ofNat m))=_
 rw [wrap_u64,mkI_nat]
theorem chkI_ok {r:Nat} {k:RV→A} {s:A} (h:Good (chkI r k s)):(r≤9223372036854775807∧Good (k (.i .i64 (.ofNat r)))) ∨ Good s:=by
 rcases ifA_ok h with ⟨h1,h2⟩ | ⟨_,h2⟩
 ·exact .inl ⟨Nat.le_of_ble_eq_true h1,frc_ok h2⟩
 ·exact .inr h2
theorem chkU_ok {r:Nat} {k:RV→A} {s:A} (h:Good (chkU r k s)):(r≤18446744073709551615∧Good (k (.i .u64 (.ofNat r)))) ∨ Good s:=by
 rcases ifA_ok h with ⟨h1,h2⟩ | ⟨_,h2⟩
 ·exact .inl ⟨Nat.le_of_ble_eq_true h1,frc_ok h2⟩
 ·exact .inr h2
theorem to_b {op:BinOp} {x y v:RV} {k:RV→A} (e:binV ys op x y=v) (hv:v ≠ .un) (h:Good (k v)):binV ys op x y ≠ .un∧Good (k (binV ys op x y)):=by rw [e]; exact ⟨hv,h⟩
theorem i_un {j:IntKind} {z:Int}:RV.i j z ≠ .un:=by simp
theorem b_un {b:Bool}:mkB b ≠ .un:=by cases b <;> simp [mkB]
theorem bAdd_ok:BOk ys .add (bAdd ys):=fun x y k h=>by
 rcases cM2_ok h with ⟨a,b,rfl,rfl,h1⟩ | ⟨a,b,rfl,rfl,h1⟩ | h1
 ·rcases chkI_ok h1 with ⟨h2,h3⟩ | h2
  ·exact to_b (wrapI_i64 h2) i_un h3
  ·exact slow_ok _ _ _ _ h2
 ·exact to_b (wrapI_u64 (a + b)) i_un (frc_ok h1)
 ·exact slow_ok _ _ _ _ h1
theorem bMul_ok:BOk ys .mul (bMul ys):=fun x y k h=>by
 rcases cM2_ok h with ⟨a,b,rfl,rfl,h1⟩ | ⟨a,b,rfl,rfl,h1⟩ | h1
 ·rcases chkI_ok h1 with ⟨h2,h3⟩ | h2
  ·exact to_b (wrapI_i64 h2) i_un h3
  ·exact slow_ok _ _ _ _ h2
 ·exact to_b (wrapI_u64 (a * b)) i_un (frc_ok h1)
 ·exact slow_ok _ _ _ _ h1
theorem sub_nat {a b:Nat} (h:b≤a):Int.sub (.ofNat a) (.ofNat b)=.ofNat (a - b):=by
 show (a:Int) - (b:Int)=((a - b:Nat):Int)
 omega
theorem bSub_ok:BOk ys .sub (bSub ys):=fun x y k h=>by
 rcases cM2_ok h with ⟨a,b,rfl,rfl,h1⟩ | ⟨a,b,rfl,rfl,h1⟩ | h1
 ·rcases ifA_ok h1 with ⟨h2,h3⟩ | ⟨_,h3⟩
  ·rcases chkI_ok h3 with ⟨h4,h5⟩ | h4
   ·refine to_b (v:=.i .i64 (.ofNat (a - b))) ?_ i_un h5
    show wrapI .i64 (Int.sub (.ofNat a) (.ofNat b))=_
    rw [sub_nat (Nat.le_of_ble_eq_true h2)]
    exact wrapI_i64 h4
   ·exact slow_ok _ _ _ _ h4
  ·exact slow_ok _ _ _ _ h3
 ·rcases ifA_ok h1 with ⟨h2,h3⟩ | ⟨_,h3⟩
  ·rcases chkU_ok h3 with ⟨h4,h5⟩ | h4
   ·refine to_b (v:=.i .u64 (.ofNat (a - b))) ?_ i_un h5
    show wrapI .u64 (Int.sub (.ofNat a) (.ofNat b))=_
    rw [sub_nat (Nat.le_of_ble_eq_true h2),wrapI_u64]
    have h4:a - b≤18446744073709551615:=h4
    rw [Nat.mod_eq_of_lt (by omega)]
   ·exact slow_ok _ _ _ _ h4
  ·exact slow_ok _ _ _ _ h3
 ·exact slow_ok _ _ _ _ h1
theorem bBit_ok {op:BinOp} {f:Nat→Nat→Nat} (e:∀ j a b,binV ys op (.i j (.ofNat a)) (.i j (.ofNat b))=mkI j (IntKind.wrap j (.ofNat (f a b)))):BOk ys op (bBit ys op f):=fun x y k h=>by
 rcases cM2_ok h with ⟨a,b,rfl,rfl,h1⟩ | ⟨a,b,rfl,rfl,h1⟩ | h1
 ·rcases chkI_ok h1 with ⟨h2,h3⟩ | h2
  ·refine to_b (v:=.i .i64 (.ofNat (f a b))) ?_ i_un h3
   rw [e,wrap_i64 h2,mkI_nat]
  ·exact slow_ok _ _ _ _ h2
 ·rcases chkU_ok h1 with ⟨h2,h3⟩ | h2
  ·refine to_b (v:=.i .u64 (.ofNat (f a b))) ?_ i_un h3
   rw [e,wrap_u64,mkI_nat,Nat.mod_eq_of_lt (by omega)]
  ·exact slow_ok _ _ _ _ h2
 ·exact slow_ok _ _ _ _ h1
theorem bCmp_ok {op:BinOp} {f:Nat→Nat→Bool} (e1:∀ a b,binV ys op (.i .i64 (.ofNat a)) (.i .i64 (.ofNat b))=mkB (f a b)) (e2:∀ a b,binV ys op (.i .u64 (.ofNat a)) (.i .u64 (.ofNat b))=mkB (f a b)):BOk ys op (bCmp ys op f):=fun x y k h=>by
 rcases cM2_ok h with ⟨a,b,rfl,rfl,h1⟩ | ⟨a,b,rfl,rfl,h1⟩ | h1
 ·exact to_b (e1 a b) b_un (mkBk_ok h1)
 ·exact to_b (e2 a b) b_un (mkBk_ok h1)
 ·exact slow_ok _ _ _ _ h1
theorem ltI_nat (a b:Nat):ltI (.ofNat a) (.ofNat b)=Nat.ble (a + 1) b:=by
 have e:∀ z:Int,@Int.rec (fun _=>Bool) (fun _=>false) (fun _=>true) z=decide (z < 0):=by
  intro z
  cases z with
  | ofNat m=>show false=decide ((m:Int) < 0); symm; rw [decide_eq_false_iff_not]; omega
  | negSucc m=>show true=decide (Int.negSucc m < 0); symm; rw [decide_eq_true_iff]; omega
 show @Int.rec (fun _=>Bool) (fun _=>false) (fun _=>true) (Int.sub (.ofNat a) (.ofNat b))=_
 rw [e]
 show decide ((a:Int) - (b:Int) < 0)=Nat.ble (a + 1) b
 cases h:Nat.ble (a + 1) b with
 | true=>rw [decide_eq_true_iff]; have:=Nat.le_of_ble_eq_true h; omega
 | false=>
  rw [decide_eq_false_iff_not]
  intro h2
  have:Nat.ble (a + 1) b=true:=Nat.ble_eq_true_of_le (by omega)
  rw [h] at this; cases this
theorem not_lt (a b:Nat):notB (Nat.ble (b + 1) a)=Nat.ble a b:=by
 cases h:Nat.ble a b with
 | true=>
  have:=Nat.le_of_ble_eq_true h
  cases h2:Nat.ble (b + 1) a with
  | false=>rfl
  | true=>have:=Nat.le_of_ble_eq_true h2; omega
 | false=>
  cases h2:Nat.ble (b + 1) a with
  | true=>rfl
  | false=>
   exfalso
   by_cases q:a≤b
   ·rw [Nat.ble_eq_true_of_le q] at h; cases h
   ·rw [Nat.ble_eq_true_of_le (show b + 1≤a by omega)] at h2; cases h2
theorem bQuo_ok:BOk ys .quo (bQuo ys):=fun x y k h=>by
 rcases cM2_ok h with ⟨a,b,rfl,rfl,h1⟩ | ⟨a,b,rfl,rfl,h1⟩ | h1
 ·rcases ifA_ok h1 with ⟨_,h2⟩ | ⟨h2,h3⟩
  ·exact Good.no h2
  ·rcases chkI_ok h3 with ⟨h4,h5⟩ | h4
   ·refine to_b (v:=.i .i64 (.ofNat (a / b))) ?_ i_un h5
    show bf (Nat.beq b 0) .un (wrapI .i64 (Int.tdiv (.ofNat a) (.ofNat b)))=_
    rw [h2]
    exact wrapI_i64 h4
   ·exact slow_ok _ _ _ _ h4
 ·exact slow_ok _ _ _ _ h1
 ·exact slow_ok _ _ _ _ h1
theorem bRem_ok:BOk ys .rem (bRem ys):=fun x y k h=>by
 rcases cM2_ok h with ⟨a,b,rfl,rfl,h1⟩ | ⟨a,b,rfl,rfl,h1⟩ | h1
 ·rcases ifA_ok h1 with ⟨_,h2⟩ | ⟨h2,h3⟩
  ·exact Good.no h2
  ·refine to_b (v:=.i .i64 (.ofNat (a % b))) ?_ i_un (frc_ok h3)
   show bf (Nat.beq b 0) .un (mkI .i64 (Int.tmod (.ofNat a) (.ofNat b)))=_
   rw [h2]
   exact mkI_nat _ _
 ·exact slow_ok _ _ _ _ h1
 ·exact slow_ok _ _ _ _ h1
theorem shl_v (j i:IntKind) (a b:Nat) (h:Nat.ble b (IntKind.bits j)=true):binV ys .shl (.i j (.ofNat a)) (.i i (.ofNat b))=mkI j (IntKind.wrap j (.ofNat (a * 2 ^ b))):=by
 show bf (Nat.ble b (IntKind.bits j)) _ _=_
 rw [h]
 rfl
theorem shr_v (j i:IntKind) (a b:Nat) (h:Nat.ble b (IntKind.bits j)=true):binV ys .shr (.i j (.ofNat a)) (.i i (.ofNat b))=mkI j (.ofNat (a / 2 ^ b)):=by
 show bf (Nat.ble b (IntKind.bits j)) _ _=_
 rw [h]
 rfl
theorem shlI {i:IntKind} {a b:Nat} {k:RV→A} (h:Good (ifA (Nat.ble b 64) (chkI (Nat.mul a (Nat.pow 2 b)) k (slow ys .shl (.i .i64 (.ofNat a)) (.i i (.ofNat b)) k)) .no)) :
  binV ys .shl (.i .i64 (.ofNat a)) (.i i (.ofNat b)) ≠ .un∧Good (k (binV ys .shl (.i .i64 (.ofNat a)) (.i i (.ofNat b)))):=by
 obtain ⟨h1,h2⟩:=ifA_y h
 rcases chkI_ok h2 with ⟨h3,h4⟩ | h3
 ·refine to_b (v:=.i .i64 (.ofNat (a * 2 ^ b))) ?_ i_un h4
  have h3:a * 2 ^ b≤9223372036854775807:=h3
  rw [shl_v _ _ _ _ h1,wrap_i64 h3,mkI_nat]
 ·exact slow_ok _ _ _ _ h3
theorem bShl_ok:BOk ys .shl (bShl ys):=fun x y k h=>by
 rcases cM_ok h with ⟨a,rfl,h1⟩ | ⟨a,rfl,h1⟩ | h1
 ·rcases cM_ok h1 with ⟨b,rfl,h2⟩ | ⟨b,rfl,h2⟩ | h2
  ·exact shlI h2
  ·exact shlI h2
  ·exact slow_ok _ _ _ _ h2
 ·rcases cM_ok h1 with ⟨b,rfl,h2⟩ | ⟨b,rfl,h2⟩ | h2
  ·obtain ⟨h3,h4⟩:=ifA_y h2
   refine to_b (v:=.i .u64 (.ofNat (a * 2 ^ b % 18446744073709551616))) ?_ i_un (frc_ok h4)
   rw [shl_v _ _ _ _ h3,wrap_u64,mkI_nat]
  ·obtain ⟨h3,h4⟩:=ifA_y h2
   refine to_b (v:=.i .u64 (.ofNat (a * 2 ^ b % 18446744073709551616))) ?_ i_un (frc_ok h4)
   rw [shl_v _ _ _ _ h3,wrap_u64,mkI_nat]
  ·exact slow_ok _ _ _ _ h2
 ·exact slow_ok _ _ _ _ h1
theorem shrI {j i:IntKind} {a b:Nat} {k:RV→A} (e:IntKind.bits j=64) (h:Good (ifA (Nat.ble b 64) (frc (Nat.div a (Nat.pow 2 b)) fun r=>k (.i j (.ofNat r))) .no)) :
  binV ys .shr (.i j (.ofNat a)) (.i i (.ofNat b)) ≠ .un∧Good (k (binV ys .shr (.i j (.ofNat a)) (.i i (.ofNat b)))):=by
 obtain ⟨h1,h2⟩:=ifA_y h
 refine to_b (v:=.i j (.ofNat (a / 2 ^ b))) ?_ i_un (frc_ok h2)
 rw [shr_v _ _ _ _ (by rw [e]; exact h1),mkI_nat]
theorem bShr_ok:BOk ys .shr (bShr ys):=fun x y k h=>by
 rcases cM_ok h with ⟨a,rfl,h1⟩ | ⟨a,rfl,h1⟩ | h1
 ·rcases cM_ok h1 with ⟨b,rfl,h2⟩ | ⟨b,rfl,h2⟩ | h2
  ·exact shrI rfl h2
  ·exact shrI rfl h2
  ·exact slow_ok _ _ _ _ h2
 ·rcases cM_ok h1 with ⟨b,rfl,h2⟩ | ⟨b,rfl,h2⟩ | h2
  ·exact shrI rfl h2
  ·exact shrI rfl h2
  ·exact slow_ok _ _ _ _ h2
 ·exact slow_ok _ _ _ _ h1
theorem binW_ok (op:BinOp):BOk ys op (binW ys op):=by
 cases op with
 | add=>exact bAdd_ok
 | sub=>exact bSub_ok
 | mul=>exact bMul_ok
 | quo=>exact bQuo_ok
 | rem=>exact bRem_ok
 | and=>exact bBit_ok fun _ _ _=>by rename_i j _ _; cases j <;> rfl
 | or=>exact bBit_ok fun _ _ _=>by rename_i j _ _; cases j <;> rfl
 | xor=>exact bBit_ok fun _ _ _=>by rename_i j _ _; cases j <;> rfl
 | shl=>exact bShl_ok
 | shr=>exact bShr_ok
 | andNot=>exact slow_ok _
 | eql=>exact bCmp_ok (fun _ _=>rfl) (fun _ _=>rfl)
 | neq=>exact bCmp_ok (fun _ _=>rfl) (fun _ _=>rfl)
 | lss=>exact bCmp_ok (fun a b=>congrArg mkB (ltI_nat a b)) (fun a b=>congrArg mkB (ltI_nat a b))
 | leq=>exact bCmp_ok (fun a b=>by show mkB (notB (ltI (.ofNat b) (.ofNat a)))=_; rw [ltI_nat,not_lt]) (fun a b=>by show mkB (notB (ltI (.ofNat b) (.ofNat a)))=_; rw [ltI_nat,not_lt])
 | gtr=>exact bCmp_ok (fun a b=>congrArg mkB (ltI_nat b a)) (fun a b=>congrArg mkB (ltI_nat b a))
 | geq=>exact bCmp_ok (fun a b=>by show mkB (notB (ltI (.ofNat a) (.ofNat b)))=_; rw [ltI_nat,not_lt]; rfl) (fun a b=>by show mkB (notB (ltI (.ofNat a) (.ofNat b)))=_; rw [ltI_nat,not_lt]; rfl)
end
end Go.Rn
namespace Go.Rn
attribute [local irreducible] HT10 CT9 RelC9 RelH10
section
variable {ys:Ys} {fl:Nat}
/-! pure operations -/
theorem pMv_ok {x:RO} {g:G3} (hg:GOk g fun t=>ev t x):POk ys (pMv g) (.mv x):=fun t3 t c hF h=>by
 obtain ⟨h1,h2⟩:=cU_ok (hg _ _ _ hF h)
 exact ⟨_,fun cl fl lim h n=>okV_of h1,h2⟩
theorem pPick_ok {x y z:RO} {c a b:G3} (hc:GOk c fun t=>ev t x) (ha:GOk a fun t=>ev t y) (hb:GOk b fun t=>ev t z):POk ys (pPick c a b) (.pick x y z):=fun t3 t k hF h=>by
 obtain ⟨q,e,h1⟩:=cB_ok (hc _ _ _ hF h)
 have e:ev t x=.b q:=e
 rcases ifA_ok h1 with ⟨rfl,h2⟩ | ⟨rfl,h2⟩
 ·obtain ⟨h3,h4⟩:=cU_ok (ha _ _ _ hF h2)
  refine ⟨_,fun cl fl lim h n=>?_,h4⟩
  show gB (SR.bad [3]) (ev t x) (fun q=>okV (bf q (ev t y) (ev t z)) h n 2)=_
  rw [e]
  exact okV_of h3
 ·obtain ⟨h3,h4⟩:=cU_ok (hb _ _ _ hF h2)
  refine ⟨_,fun cl fl lim h n=>?_,h4⟩
  show gB (SR.bad [3]) (ev t x) (fun q=>okV (bf q (ev t y) (ev t z)) h n 2)=_
  rw [e]
  exact okV_of h3
theorem pNc_ok {x:RO} {g:G3} (hg:GOk g fun t=>ev t x):POk ys (pNc g) (.nc x):=fun t3 t c hF h=>by
 obtain ⟨h1,h2⟩:=cNc_ok (hg _ _ _ hF h)
 refine ⟨ev t x,fun cl fl lim h n=>?_,h2⟩
 show gP (gF (SR.bad [16]) (ev t x) fun f c=>bf (Nat.ble 33554432 f) (gN (.bad [186]) c (.bad [187]) fun _ _=>.ok (.fn f c) h n) (.ok (.fn f c) h n)) (ev t x) (fun b o=>SR.ok (.p b o) h n)=_
 rcases h1 with ⟨b,o,e⟩ | ⟨f,c,e,h3⟩
 ·have e:=e; simp only at e; rw [e]; rfl
 ·have e:=e
  simp only at e
  rw [e]
  show bf (Nat.ble 33554432 f) (gN (SR.bad [186]) c (.bad [187]) fun _ _=>.ok (.fn f c) h n) (.ok (.fn f c) h n)=_
  cases hb:Nat.ble 33554432 f with
  | false=>rfl
  | true=>obtain ⟨a,r,rfl⟩:=h3 hb; rfl
theorem taN_ok {z:RV} {two:Bool} {k:RV→A} (h:Good (taN z two k)):∃ v,(∀ h n,taNo z two h n=.ok v h n)∧Good (k v):=by
 obtain ⟨rfl,h1⟩:=ifA_y h
 obtain ⟨h2,h3⟩:=cUv_ok h1
 exact ⟨_,fun h n=>nU_of (d:=SR.bad [181]) (k:=fun z=>SR.ok (.tup (.cons z (.cons (.b false) .nil))) h n) h2,h3⟩
theorem taY_ok {two:Bool} {u:RV} {k:RV→A} (h:Good (taY two u k)):∃ v,(∀ h n,taYes two u h n=.ok v h n)∧Good (k v):=by
 obtain ⟨h2,h3⟩:=cUv_ok h
 rcases ifA_ok h3 with ⟨rfl,h4⟩ | ⟨rfl,h4⟩
 ·exact ⟨_,fun h n=>nU_of (d:=SR.bad [183]) (k:=fun v=>SR.ok (.tup (.cons v (.cons (.b true) .nil))) h n) h2,h4⟩
 ·exact ⟨_,fun h n=>nU_of (d:=SR.bad [183]) (k:=fun v=>SR.ok v h n) h2,h4⟩
theorem pTa_ok {ty:Nat} {z:RV} {two:Bool} {x:RO} {g:G3} (hg:GOk g fun t=>ev t x):POk ys (pTa ty z two g) (.ta ty z two x):=fun t3 t c hF h=>by
 have st:∀ (cl:Cl') (fl lim:Nat) (h:HT) (n:Nat),step (.ta ty z two x) ys cl fl lim t h n=gIf (.bad [180]) (ev t x) (taNo z two h n) (fun f v=>bf (Nat.beq f (Nat.add 33554432 ty)) (taYes two v h n) (taNo z two h n)):=fun _ _ _ _ _=>rfl
 obtain ⟨f,hf,h1⟩:=cIf_ok (hg _ _ _ hF h)
 rcases h1 with ⟨e,h2⟩ | ⟨y,e,h2⟩
 ·have e:ev t x=.fn f .nil:=e
  obtain ⟨v,h3,h4⟩:=taN_ok h2
  exact ⟨v,fun cl fl lim h n=>by rw [st,e,gIf_nil hf]; exact h3 h n,h4⟩
 ·have e:ev t x=.fn f (.cons .nil (.cons y .nil)):=e
  rcases ifA_ok h2 with ⟨hb,h3⟩ | ⟨hb,h3⟩
  ·obtain ⟨v,h4,h5⟩:=taY_ok h3
   exact ⟨v,fun cl fl lim h n=>by rw [st,e,gIf_if hf,hb]; exact h4 h n,h5⟩
  ·obtain ⟨v,h4,h5⟩:=taN_ok h3
   exact ⟨v,fun cl fl lim h n=>by rw [st,e,gIf_if hf,hb]; exact h4 h n,h5⟩
theorem pBin_ok {op:BinOp} {f:RV→RV→(RV→A)→A} (hf:BOk ys op f) {x y:RO} {a b:G3} (ha:GOk a fun t=>ev t x) (hb:GOk b fun t=>ev t y):POk ys (pBin f a b) (.bn op x y):=fun t3 t c hF h=>by
 obtain ⟨h1,h2⟩:=hf _ _ _ (hb _ _ _ hF (ha _ _ _ hF h))
 exact ⟨_,fun cl fl lim h n=>okV_of h1,h2⟩
theorem pBq_ok {neg:Bool} {x y:RO} {a b:G3} (ha:GOk a fun t=>ev t x) (hb:GOk b fun t=>ev t y):POk ys (pBq neg a b) (.bq neg x y):=fun t3 t c hF h=>by
 obtain ⟨q,e1,h1⟩:=cB_ok (ha _ _ _ hF h)
 obtain ⟨r,e2,h2⟩:=cB_ok (hb _ _ _ hF h1)
 have e1:ev t x=.b q:=e1
 have e2:ev t y=.b r:=e2
 refine ⟨_,fun cl fl lim h n=>?_,mkBk_ok h2⟩
 show gB (SR.bad [18]) (ev t x) (fun a=>gB (SR.bad [19]) (ev t y) fun b=>SR.ok (mkB (eqB neg (notB (eqB a b)))) h n)=_
 rw [e1,e2]
 rfl
theorem pNq_ok {kd:Nat} {neg:Bool} {x y:RO} {a b:G3} (ha:GOk a fun t=>ev t x) (hb:GOk b fun t=>ev t y):POk ys (pNq kd neg a b) (.nq kd neg x y):=fun t3 t c hF h=>by
 obtain ⟨q,u,e1,h1⟩:=cNil_ok (ha _ _ _ hF h)
 obtain ⟨r,w,e2,h2⟩:=cNil_ok (hb _ _ _ hF h1)
 obtain ⟨h3,h4⟩:=ifA_y h2
 obtain ⟨h5,h6⟩:=ifA_y h4
 have e1:isNil (ev t x)=some (q,u):=e1
 have e2:isNil (ev t y)=some (r,w):=e2
 have key:∀ h n,stNq kd neg x y ys (fun _ _ _ _ _=>SR.bad []) 0 0 t h n=bf w (SR.ok (mkB (eqB neg (notB u))) h n) (bf u (SR.ok (mkB neg) h n) (SR.bad [22])):=fun h n=>by
  show gO (SR.bad [20]) (isNil (ev t x)) (fun a=>gO (SR.bad [21]) (isNil (ev t y)) fun b=>bf (bf (Nat.beq a.1 kd) (Nat.beq b.1 kd) false) (bf b.2 (SR.ok (mkB (eqB neg (notB a.2))) h n) (bf a.2 (SR.ok (mkB neg) h n) (SR.bad [22]))) (SR.bad [23]))=_
  rw [e1,e2]
  show bf (bf (Nat.beq q kd) (Nat.beq r kd) false) _ _=_
  rw [h3,h5]
  rfl
 rcases ifA_ok h6 with ⟨rfl,h7⟩ | ⟨rfl,h7⟩
 ·exact ⟨_,fun cl fl lim h n=>key h n,mkBk_ok h7⟩
 ·obtain ⟨rfl,h8⟩:=ifA_y h7
  exact ⟨_,fun cl fl lim h n=>key h n,mkBk_ok h8⟩
theorem pSe_ok {ks:List Nat} {neg:Bool} {x y:RO} {a b:G3} (ha:GOk a fun t=>ev t x) (hb:GOk b fun t=>ev t y):POk ys (pSe ys ks neg a b) (.se ks neg x y):=fun t3 t c hF h=>by
 rcases ifA_ok h with ⟨hi,h⟩ | ⟨hi,h⟩
 ·obtain ⟨u,e3,h4⟩:=cB_ok (hb _ _ _ hF (ha _ _ _ hF h))
  have e3:eqIf (tlN ks) (ev t x) (ev t y)=.b u:=e3
  refine ⟨_,fun cl fl lim h n=>?_,mkBk_ok h4⟩
  show bf (isIf ks) (gB (SR.bad [123]) (eqIf (tlN ks) (ev t x) (ev t y)) fun r=>SR.ok (mkB (eqB neg (notB r))) h n) _=_
  rw [hi,e3]
  rfl
 obtain ⟨q,e1,h1⟩:=cA_ok (ha _ _ _ hF h)
 obtain ⟨r,e2,h2⟩:=cA_ok (hb _ _ _ hF h1)
 obtain ⟨u,e3,h4⟩:=cB_ok h2
 have e1:ev t x=.agg q:=e1
 have e2:ev t y=.agg r:=e2
 refine ⟨_,fun cl fl lim h n=>?_,mkBk_ok h4⟩
 show bf (isIf ks) _ (gA (SR.bad [120]) (ev t x) (fun c=>gA (SR.bad [121]) (ev t y) fun d=>gB (SR.bad [122]) (eqCh ys ks c d) fun r=>SR.ok (mkB (eqB neg (notB r))) h n))=_
 rw [hi,e1,e2]
 show gB (SR.bad [122]) (eqCh ys ks q r) (fun r=>SR.ok (mkB (eqB neg (notB r))) h n)=_
 rw [e3]
 rfl
theorem pNg_ok {x:RO} {g:G3} (hg:GOk g fun t=>ev t x):POk ys (pNg g) (.ng x):=fun t3 t c hF h=>by
 rcases cY_ok (hg _ _ _ hF h) with ⟨j,z,e,h1⟩ | ⟨j,z,e,h1⟩
 ·have e:ev t x=.i j z:=e
  obtain ⟨h2,h3⟩:=cUv_ok h1
  refine ⟨_,fun cl fl lim h n=>?_,h3⟩
  show gI _ (ev t x) (fun k a=>okV (arI .sub k 0 a) h n 24)=_
  rw [e]
  exact okV_of h2
 ·have e:ev t x=.y j z:=e
  refine ⟨_,fun cl fl lim h n=>?_,h1⟩
  show gI (gY (SR.bad [24]) (ev t x) fun k e=>SR.ok (.y k (.sub k (.c 0) e)) h n) (ev t x) (fun k a=>okV (arI .sub k 0 a) h n 24)=_
  rw [e]
  rfl
theorem pNt_ok {x:RO} {g:G3} (hg:GOk g fun t=>ev t x):POk ys (pNt g) (.nt x):=fun t3 t c hF h=>by
 obtain ⟨q,e,h1⟩:=cB_ok (hg _ _ _ hF h)
 have e:ev t x=.b q:=e
 refine ⟨_,fun cl fl lim h n=>?_,mkBk_ok h1⟩
 show gB (SR.bad [25]) (ev t x) (fun a=>SR.ok (mkB (notB a)) h n)=_
 rw [e]
 rfl
def VOk (j:IntKind) (f:RV→(RV→A)→A):Prop:=∀ x k,Good (f x k)→∃ i z,x=.i i z∧wrapI j z ≠ .un∧Good (k (wrapI j z))
theorem slowC_ok (j:IntKind):VOk j (slowC j):=fun x k h=>by
 obtain ⟨i,z,rfl,h1⟩:=cI_ok h
 obtain ⟨h2,h3⟩:=cUv_ok h1
 exact ⟨i,z,rfl,h2,h3⟩
theorem cvI {i:IntKind} {m:Nat} {k:RV→A} (h:Good (chkI m k (slowC .i64 (.i i (.ofNat m)) k))):∃ i' z,(RV.i i (.ofNat m))=.i i' z∧wrapI .i64 z ≠ .un∧Good (k (wrapI .i64 z)):=by
 rcases chkI_ok h with ⟨h1,h2⟩ | h1
 ·refine ⟨i,.ofNat m,rfl,?_⟩
  rw [wrapI_i64 h1]
  exact ⟨i_un,h2⟩
 ·exact slowC_ok _ _ _ h1
theorem cvU {i:IntKind} {m:Nat} {k:RV→A} (h:Good (chkU m k (slowC .u64 (.i i (.ofNat m)) k))):∃ i' z,(RV.i i (.ofNat m))=.i i' z∧wrapI .u64 z ≠ .un∧Good (k (wrapI .u64 z)):=by
 rcases chkU_ok h with ⟨h1,h2⟩ | h1
 ·refine ⟨i,.ofNat m,rfl,?_⟩
  rw [wrapI_u64,Nat.mod_eq_of_lt (by omega)]
  exact ⟨i_un,h2⟩
 ·exact slowC_ok _ _ _ h1
theorem cv64_ok:VOk .i64 (cvF .i64):=fun x k h=>by
 rcases cM_ok h with ⟨m,rfl,h1⟩ | ⟨m,rfl,h1⟩ | h1
 ·exact cvI h1
 ·exact cvI h1
 ·exact slowC_ok _ _ _ h1
theorem cvU64_ok:VOk .u64 (cvF .u64):=fun x k h=>by
 rcases cM_ok h with ⟨m,rfl,h1⟩ | ⟨m,rfl,h1⟩ | h1
 ·exact cvU h1
 ·exact cvU h1
 ·exact slowC_ok _ _ _ h1
theorem cvF_ok (j:IntKind):VOk j (cvF j):=by
 cases j with
 | i64=>exact cv64_ok
 | u64=>exact cvU64_ok
 | i8=>exact slowC_ok _
 | i16=>exact slowC_ok _
 | i32=>exact slowC_ok _
 | u8=>exact slowC_ok _
 | u16=>exact slowC_ok _
 | u32=>exact slowC_ok _
theorem pCv_ok {j:IntKind} {x:RO} {g:G3} (hg:GOk g fun t=>ev t x):POk ys (pCv (cvF j) g) (.cv j x):=fun t3 t c hF h=>by
 obtain ⟨i,z,e,h2,h3⟩:=cvF_ok j _ _ (hg _ _ _ hF h)
 have e:ev t x=.i i z:=e
 refine ⟨_,fun cl fl lim h n=>?_,h3⟩
 show gI (SR.bad [26]) (ev t x) (fun _ a=>okV (wrapI j a) h n 26)=_
 rw [e]
 exact okV_of h2
theorem pMf_ok {f:Nat} {cs:List RO} {g:G3} (hg:COk g fun t=>evL t cs):POk ys (pMf f g) (.mf f cs):=fun t3 t c hF h=>by
 obtain ⟨h1,h2⟩:=hg _ _ _ hF h
 exact ⟨_,fun cl fl lim h n=>nU_of (d:=SR.bad [27]) (k:=fun c=>SR.ok (.fn f c) h n) h1,h2⟩
theorem frSu_ok {v:RV} {k:RV→A} (h:Good (frSu v k)):Good (k v):=by
 cases v with
 | su b o l e=>exact frc_ok (k:=fun e=>k (.su b o l e)) (frc_ok (k:=fun l=>frc e fun e=>k (.su b o l e)) (frc_ok (k:=fun o=>frc l fun l=>frc e fun e=>k (.su b o l e)) h))
 | _=>exact h
theorem pSc_ok {es:Nat} {x:RO} {lo hi:Option RO} {g:G3} {a b:F3→Nat→(Nat→A)→A} (hg:GOk g fun t=>ev t x) (ha:NOk a lo) (hb:NOk b hi):POk ys (pSc es g a b) (.sc es x lo hi none):=fun t3 t c hF h=>by
 obtain ⟨l,e1,h1⟩:=cLen_ok (hg _ _ _ hF h)
 obtain ⟨p,e2,h2⟩:=ha _ _ _ _ hF h1
 obtain ⟨q,e3,h3⟩:=hb _ _ _ _ hF h2
 obtain ⟨h4,h5⟩:=cUv_ok h3
 have e1:slLen (ev t x)=some l:=e1
 refine ⟨_,fun cl fl lim h n=>?_,frSu_ok h5⟩
 show gO (SR.bad [35]) (slLen (ev t x)) (fun l=>gO (SR.bad [36]) (optN t lo 0) fun a=>gO (SR.bad [37]) (optN t hi l) fun b=>okV (slV es (ev t x) a b none) h n 38)=_
 rw [e1,e2]
 show gO (SR.bad [37]) (optN t hi l) (fun b=>okV (slV es (ev t x) p b none) h n 38)=_
 rw [e3]
 exact okV_of h4
theorem pSc3_ok {es:Nat} {x y:RO} {lo hi:Option RO} {g:G3} {a b d:F3→Nat→(Nat→A)→A} (hg:GOk g fun t=>ev t x) (ha:NOk a lo) (hb:NOk b hi) (hd:NOk d (some y)):POk ys (pSc3 es g a b d) (.sc es x lo hi (some y)):=fun t3 t c hF h=>by
 obtain ⟨l,e1,h1⟩:=cLen_ok (hg _ _ _ hF h)
 obtain ⟨p,e2,h2⟩:=ha _ _ _ _ hF h1
 obtain ⟨q,e3,h3⟩:=hb _ _ _ _ hF h2
 obtain ⟨m,e4,h6⟩:=hd _ _ _ _ hF h3
 obtain ⟨h4,h5⟩:=cUv_ok h6
 have e1:slLen (ev t x)=some l:=e1
 refine ⟨_,fun cl fl lim h n=>?_,h5⟩
 show gO (SR.bad [35]) (slLen (ev t x)) (fun l=>gO (SR.bad [36]) (optN t lo 0) fun a=>gO (SR.bad [37]) (optN t hi l) fun b=>gO (SR.bad [39]) (optN t (some y) 0) fun m=>okV (slV es (ev t x) a b (some m)) h n 38)=_
 rw [e1,e2]
 show gO (SR.bad [37]) (optN t hi l) (fun b=>gO (SR.bad [39]) (optN t (some y) 0) fun m=>okV (slV es (ev t x) p b (some m)) h n 38)=_
 rw [e3]
 show gO (SR.bad [39]) (optN t (some y) 0) (fun m=>okV (slV es (ev t x) p q (some m)) h n 38)=_
 rw [e4]
 exact okV_of h4
theorem pSs_ok {x:RO} {lo hi:Option RO} {g:G3} {a b:F3→Nat→(Nat→A)→A} (hg:GOk g fun t=>ev t x) (ha:NOk a lo) (hb:NOk b hi):POk ys (pSs g a b) (.ss x lo hi):=fun t3 t c hF h=>by
 obtain ⟨l,e1,h1⟩:=cS_ok (hg _ _ _ hF h)
 obtain ⟨p,e2,h2⟩:=ha _ _ _ _ hF (frc_ok h1)
 obtain ⟨q,e3,h3⟩:=hb _ _ _ _ hF h2
 obtain ⟨h4,h5⟩:=ifA_y h3
 obtain ⟨h6,h7⟩:=ifA_y h5
 have h8:=frcL_ok h7
 have e1:ev t x=.s l:=e1
 refine ⟨_,fun cl fl lim h n=>?_,h8⟩
 show gS (SR.bad [40]) (ev t x) (fun l=>gO (SR.bad [41]) (optN t lo 0) fun a=>gO (SR.bad [42]) (optN t hi l.length) fun b=>bf (Nat.ble a b) (bf (Nat.ble b l.length) (SR.ok (.s ((l.take b).drop a)) h n) (SR.bad [43])) (SR.bad [44]))=_
 rw [e1,e2]
 show gO (SR.bad [42]) (optN t hi l.length) (fun b=>bf (Nat.ble p b) (bf (Nat.ble b l.length) (SR.ok (.s ((l.take b).drop p)) h n) (SR.bad [43])) (SR.bad [44]))=_
 rw [e3]
 show bf (Nat.ble p q) (bf (Nat.ble q l.length) (SR.ok (.s ((l.take q).drop p)) h n) (SR.bad [43])) (SR.bad [44])=_
 rw [h4,h6]
 rfl
theorem pSa_ok {m es:Nat} {x:RO} {lo hi:Option RO} {g:G3} {a b:F3→Nat→(Nat→A)→A} (hg:GOk g fun t=>ev t x) (ha:NOk a lo) (hb:NOk b hi):POk ys (pSa m es g a b) (.sa m es x lo hi):=fun t3 t c hF h=>by
 obtain ⟨i,o,e1,h1⟩:=cP_ok (hg _ _ _ hF h)
 obtain ⟨p,e2,h2⟩:=ha _ _ _ _ hF h1
 obtain ⟨q,e3,h3⟩:=hb _ _ _ _ hF h2
 obtain ⟨h4,h5⟩:=cUv_ok h3
 have e1:ev t x=.p i o:=e1
 refine ⟨_,fun cl fl lim h n=>?_,h5⟩
 show gP (SR.bad [45]) (ev t x) (fun b o=>gO (SR.bad [46]) (optN t lo 0) fun a=>gO (SR.bad [47]) (optN t hi m) fun e=>okV (slK es b o a e m) h n 48)=_
 rw [e1,e2]
 show gO (SR.bad [47]) (optN t hi m) (fun e=>okV (slK es i o p e m) h n 48)=_
 rw [e3]
 exact okV_of h4
theorem pFa_ok {off:Nat} {x:RO} {g:G3} (hg:GOk g fun t=>ev t x):POk ys (pFa off g) (.fa off x):=fun t3 t c hF h=>by
 obtain ⟨b,o,e,h1⟩:=cP_ok (hg _ _ _ hF h)
 have e:ev t x=.p b o:=e
 refine ⟨_,fun cl fl lim h n=>?_,frc_ok h1⟩
 show gP (SR.bad [49]) (ev t x) (fun b o=>SR.ok (.p b (Nat.add o off)) h n)=_
 rw [e]
 rfl
theorem pFd_ok {ag:Bool} {off m:Nat} {x:RO} {g:G3} (hg:GOk g fun t=>ev t x):POk ys (pFd ag off m g) (.fd ag off m x):=fun t3 t c hF h=>by
 obtain ⟨q,e,h1⟩:=cA_ok (hg _ _ _ hF h)
 obtain ⟨v,h2,h3⟩:=part3_ok h1
 have e:ev t x=.agg q:=e
 refine ⟨_,fun cl fl lim h n=>?_,h3⟩
 show gA (SR.bad [52]) (ev t x) (fun c=>partC ag c off m h n)=_
 rw [e]
 exact h2 h n
theorem iaK_ok {es b o l a:Nat} {k:RV→A} (h:Good (iaK es b o l a k)):Nat.ble (a + 1) l=true∧Good (k (.p b (o + a * es))):=by
 obtain ⟨h1,h2⟩:=ifA_y h
 exact ⟨h1,frc_ok (k:=fun o=>k (.p b o)) h2⟩
theorem ixN_of {v:RV} {j:IntKind} {a l:Nat} {k:Nat→SR} (e:v=.i j (.ofNat a)) (h:Nat.ble (a + 1) l=true):ixN v l k=k a:=by
 subst e
 show bf (Nat.ble (a + 1) l) (k a) _=_
 rw [h]
 rfl
theorem pIa_ok {es:Nat} {x i:RO} {g f:G3} (hg:GOk g fun t=>ev t x) (hf:GOk f fun t=>ev t i):POk ys (pIa es g f) (.ia es x i):=fun t3 t c hF h=>by
 obtain ⟨j,a,e2,h1⟩:=cK_ok (hf _ _ _ hF (hg _ _ _ hF h))
 have e2:ev t i=.i j (.ofNat a):=e2
 rcases cL_ok h1 with ⟨_,h2⟩ | ⟨b,o,l,q,e1,h2⟩ | ⟨b,o,l,q,e1,h2⟩ | ⟨_,_,_,h2⟩
 ·exact Good.no h2
 ·obtain ⟨h3,h4⟩:=iaK_ok h2
  have e1:ev t x=.sl b o l q:=e1
  refine ⟨_,fun cl fl lim h n=>?_,h4⟩
  show gL (SR.bad [56]) (ev t x) (SR.bad [57]) (fun b o l _=>ixN (ev t i) l fun a=>SR.ok (.p b (Nat.add o (Nat.mul a es))) h n) (fun b o l _=>ixN (ev t i) l fun a=>SR.ok (.p b (Nat.add o (Nat.mul a es))) h n) (fun _ _=>SR.bad [58])=_
  rw [e1]
  show ixN (ev t i) l (fun a=>SR.ok (.p b (Nat.add o (Nat.mul a es))) h n)=_
  exact ixN_of e2 h3
 ·obtain ⟨h3,h4⟩:=iaK_ok h2
  have e1:ev t x=.su b o l q:=e1
  refine ⟨_,fun cl fl lim h n=>?_,h4⟩
  show gL (SR.bad [56]) (ev t x) (SR.bad [57]) (fun b o l _=>ixN (ev t i) l fun a=>SR.ok (.p b (Nat.add o (Nat.mul a es))) h n) (fun b o l _=>ixN (ev t i) l fun a=>SR.ok (.p b (Nat.add o (Nat.mul a es))) h n) (fun _ _=>SR.bad [58])=_
  rw [e1]
  show ixN (ev t i) l (fun a=>SR.ok (.p b (Nat.add o (Nat.mul a es))) h n)=_
  exact ixN_of e2 h3
 ·exact Good.no h2
theorem pIp_ok {m es:Nat} {x i:RO} {g f:G3} (hg:GOk g fun t=>ev t x) (hf:GOk f fun t=>ev t i):POk ys (pIp m es g f) (.ip m es x i):=fun t3 t c hF h=>by
 obtain ⟨j,a,e2,h1⟩:=cK_ok (hf _ _ _ hF (hg _ _ _ hF h))
 have e2:ev t i=.i j (.ofNat a):=e2
 obtain ⟨b,o,e1,h2⟩:=cP_ok h1
 obtain ⟨h3,h4⟩:=iaK_ok h2
 have e1:ev t x=.p b o:=e1
 refine ⟨_,fun cl fl lim h n=>?_,h4⟩
 show gP (SR.bad [59]) (ev t x) (fun b o=>ixN (ev t i) m fun a=>SR.ok (.p b (Nat.add o (Nat.mul a es))) h n)=_
 rw [e1]
 show ixN (ev t i) m (fun a=>SR.ok (.p b (Nat.add o (Nat.mul a es))) h n)=_
 exact ixN_of e2 h3
theorem pIx_ok {ag:Bool} {m es:Nat} {x i:RO} {g f:G3} (hg:GOk g fun t=>ev t x) (hf:GOk f fun t=>ev t i):POk ys (pIx ag m es g f) (.ix ag m es x i):=fun t3 t c hF h=>by
 obtain ⟨j,a,e2,h1⟩:=cK_ok (hf _ _ _ hF (hg _ _ _ hF h))
 have e2:ev t i=.i j (.ofNat a):=e2
 obtain ⟨q,e1,h2⟩:=cA_ok h1
 obtain ⟨h3,h4⟩:=ifA_y h2
 obtain ⟨v,h5,h6⟩:=part3_ok (frc_ok (r:=Nat.mul a es) (k:=fun o=>part3 ag q o es c) h4)
 have e1:ev t x=.agg q:=e1
 refine ⟨_,fun cl fl lim h n=>?_,h6⟩
 show gA (SR.bad [60]) (ev t x) (fun c=>ixN (ev t i) m fun a=>partC ag c (Nat.mul a es) es h n)=_
 rw [e1]
 show ixN (ev t i) m (fun a=>partC ag q (Nat.mul a es) es h n)=_
 exact (ixN_of e2 h3).trans (h5 h n)
theorem pSx_ok {x i:RO} {g f:G3} (hg:GOk g fun t=>ev t x) (hf:GOk f fun t=>ev t i):POk ys (pSx g f) (.sx x i):=fun t3 t c hF h=>by
 obtain ⟨j,a,e2,h1⟩:=cK_ok (hf _ _ _ hF (hg _ _ _ hF h))
 have e2:ev t i=.i j (.ofNat a):=e2
 obtain ⟨l,e1,h2⟩:=cS_ok h1
 obtain ⟨h3,q,h4,h5⟩:=nthN_ok h2
 have e1:ev t x=.s l:=e1
 refine ⟨_,fun cl fl lim h n=>?_,h5⟩
 show gS (SR.bad [61]) (ev t x) (fun l=>ixN (ev t i) l.length fun a=>gO (SR.bad [62]) l[a]? fun c=>SR.ok (.i .u8 (Int.ofNat c)) h n)=_
 rw [e1]
 show ixN (ev t i) l.length (fun a=>gO (SR.bad [62]) l[a]? fun c=>SR.ok (.i .u8 (Int.ofNat c)) h n)=_
 refine (ixN_of e2 (Nat.ble_eq_true_of_le h3)).trans ?_
 show gO (SR.bad [62]) l[a]? (fun c=>SR.ok (.i .u8 (Int.ofNat c)) h n)=_
 rw [h4]
 rfl
theorem pEx_ok {j:Nat} {x:RO} {g:G3} (hg:GOk g fun t=>ev t x):POk ys (pEx j g) (.ex j x):=fun t3 t c hF h=>by
 obtain ⟨q,e,h1⟩:=cT_ok (hg _ _ _ hF h)
 obtain ⟨h2,h3⟩:=chG_ok h1
 have e:ev t x=.tup q:=e
 refine ⟨_,fun cl fl lim h n=>?_,h3⟩
 show gT (SR.bad [63]) (ev t x) (fun c=>okV (chGet c j) h n 64)=_
 rw [e]
 exact okV_of h2
theorem okI (m:Nat) (h:HT) (n w:Nat):okV (mkI .i64 (Int.ofNat m)) h n w=SR.ok (.i .i64 (.ofNat m)) h n:=by rw [mkI_nat]; rfl
theorem pLnS_ok {x:RO} {g:G3} (hg:GOk g fun t=>ev t x):POk ys (pLnS g) (.ln true x):=fun t3 t c hF h=>by
 obtain ⟨l,e,h1⟩:=cS_ok (hg _ _ _ hF h)
 have e:ev t x=.s l:=e
 refine ⟨_,fun cl fl lim h n=>?_,frc_ok h1⟩
 show gS (SR.bad [68]) (ev t x) (fun l=>okV (mkI .i64 (Int.ofNat l.length)) h n 69)=_
 rw [e]
 exact okI _ _ _ _
theorem pLn_ok {x:RO} {g:G3} (hg:GOk g fun t=>ev t x):POk ys (pLn g) (.ln false x):=fun t3 t c hF h=>by
 obtain ⟨l,e,h1⟩:=cLen_ok (hg _ _ _ hF h)
 have e:slLen (ev t x)=some l:=e
 refine ⟨_,fun cl fl lim h n=>?_,h1⟩
 show gO (SR.bad [69]) (slLen (ev t x)) (fun l=>okV (mkI .i64 (Int.ofNat l)) h n 69)=_
 rw [e]
 exact okI _ _ _ _
theorem pCp_ok {x:RO} {g:G3} (hg:GOk g fun t=>ev t x):POk ys (pCp g) (.cp x):=fun t3 t c hF h=>by
 rcases cL_ok (hg _ _ _ hF h) with ⟨e,h2⟩ | ⟨b,o,l,q,e,h2⟩ | ⟨b,o,l,q,e1,h2⟩ | ⟨_,_,_,h2⟩
 ·have e:ev t x=.ns:=e
  refine ⟨_,fun cl fl lim h n=>?_,h2⟩
  show gL (SR.bad [70]) (ev t x) (SR.ok (.i .i64 (Int.ofNat 0)) h n) (fun _ _ _ c=>SR.ok (.i .i64 (Int.ofNat c)) h n) (fun _ _ _ _=>SR.bad [71]) (fun _ _=>SR.bad [72])=_
  rw [e]
  rfl
 ·have e:ev t x=.sl b o l q:=e
  refine ⟨_,fun cl fl lim h n=>?_,h2⟩
  show gL (SR.bad [70]) (ev t x) (SR.ok (.i .i64 (Int.ofNat 0)) h n) (fun _ _ _ c=>SR.ok (.i .i64 (Int.ofNat c)) h n) (fun _ _ _ _=>SR.bad [71]) (fun _ _=>SR.bad [72])=_
  rw [e]
  rfl
 ·exact Good.no h2
 ·exact Good.no h2
theorem pMm_ok {mx:Bool} {x y:RO} {a b:G3} (ha:GOk a fun t=>ev t x) (hb:GOk b fun t=>ev t y):POk ys (pMm mx a b) (.mm mx x y):=fun t3 t c hF h=>by
 obtain ⟨j,u,e1,h1⟩:=cI_ok (hb _ _ _ hF (ha _ _ _ hF h))
 obtain ⟨i,w,e2,h2⟩:=cI_ok h1
 obtain ⟨h3,h4⟩:=ifA_y h2
 obtain ⟨h5,h6⟩:=cUv_ok h4
 have e1:ev t x=.i j u:=e1
 have e2:ev t y=.i i w:=e2
 refine ⟨_,fun cl fl lim h n=>?_,h6⟩
 show gI (SR.bad [80]) (ev t x) (fun k a=>gI (SR.bad [81]) (ev t y) fun j b=>bf (eqK k j) (okV (mkI k (bf (bf mx (ltI a b) (ltI b a)) b a)) h n 82) (SR.bad [83]))=_
 rw [e1,e2]
 show bf (eqK j i) _ _=_
 rw [h3]
 exact okV_of h5
end
end Go.Rn
