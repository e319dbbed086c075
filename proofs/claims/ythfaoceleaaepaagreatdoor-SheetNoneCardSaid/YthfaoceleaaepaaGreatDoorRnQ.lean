/-
  One text of a symbolic evaluator over the model, shown sound once for every program: no statement is claimed here.
-/
import Derived.Test.YthfaoceleaaepaaGreatDoorRnP
import Derived.MapKept
import Derived.LaidEql
import Derived.Laws.IdiomStrings
import Derived.Laws.IdiomCopy
namespace Go.Rn
variable {ρ:Nat→Int} {m m':Mp} {P:Program}
variable {g fl n n' nt lim:Nat} {h h':HT} {t:FT} {a:Act} {o:Oper} {w:World} {v:RV} {ys:Ys} {cl:Cl'}
section
variable {α:Type} {d x:α}
theorem gM_ok {v:RV} {k:Nat→α} (h:gM d v k=x) (hd:d ≠ x):∃ b,v=.mp b∧k b=x:=by
 cases v <;> first | exact absurd h hd | exact ⟨_,rfl,h⟩
theorem gMK_ok {v:RB} {k:CT→α} (h:gMK d v k=x) (hd:d ≠ x):∃ c,v=.bk c MAPZ∧k c=x:=by
 cases v with
 | no=>exact absurd h hd
 | bk c z=>
  have h1:bf (Nat.beq z MAPZ) (k c) d=x:=h
  cases hz:Nat.beq z MAPZ with
  | true=>
   rw [hz] at h1
   have:=Nat.eq_of_beq_eq_true hz
   subst this
   exact ⟨c,rfl,h1⟩
  | false=>rw [hz] at h1; exact absurd h1 hd
end
theorem kOf0_b {r:RV} (hk:kOf0 r=1):∃ b,r=.b b:=by
 cases r <;> first | exact ⟨_,rfl⟩ | cases hk; done | (rename_i j z; exfalso; revert hk; cases j <;> intro hk <;> cases hk)
theorem kOf0_s {r:RV} (hk:kOf0 r=2):∃ l,r=.s l:=by
 cases r <;> first | exact ⟨_,rfl⟩ | cases hk; done | (rename_i j z; exfalso; revert hk; cases j <;> intro hk <;> cases hk)
theorem kOf0_i {r:RV} {k:IntKind} (hk:kOf0 r=kNum k):∃ z,r=.i k z:=by
 cases r <;> first | (exfalso; revert hk; cases k <;> intro hk <;> cases hk; done) | (rename_i j z; revert hk; cases k <;> cases j <;> intro hk <;> first | exact ⟨_,rfl⟩ | cases hk)
theorem kOf0_key {d:TypeDesc} {q:Nat} {r:RV} {u:Value} (hq:keyOf d=some q) (hk:kOf0 r=q) (hd:den ρ m r u):MapKept.IsKey d u:=by
 cases d <;> simp only [keyOf,Option.some.injEq,reduceCtorEq] at hq
 ·subst hq; obtain ⟨b,rfl⟩:=kOf0_b hk; cases hd; trivial
 ·subst hq; obtain ⟨z,rfl⟩:=kOf0_i hk; cases hd; rfl
 ·subst hq; obtain ⟨l,rfl⟩:=kOf0_s hk; obtain ⟨rfl,_⟩:=hd; trivial
theorem bytes_inj {a b:List Nat} (ha:∀ x ∈ a,x < 256) (hb:∀ x ∈ b,x < 256) (e:a.map UInt8.ofNat=b.map UInt8.ofNat):a=b:=by
 induction a generalizing b with
 | nil=>cases b with
  | nil=>rfl
  | cons y r=>cases e
 | cons x l ih=>cases b with
  | nil=>cases e
  | cons y r=>
   simp only [List.map_cons,List.cons.injEq] at e
   have hx:=ha x (.head _)
   have hy:=hb y (.head _)
   have h1:x=y:=by
    have:=congrArg UInt8.toNat e.1
    simpa [Nat.mod_eq_of_lt hx,Nat.mod_eq_of_lt hy] using this
   rw [h1,ih (fun z hz=>ha z (.tail _ hz)) (fun z hz=>hb z (.tail _ hz)) e.2]
theorem kEq0_ok {d:TypeDesc} {q:Nat} {r r':RV} {u u':Value} (hq:keyOf d=some q) (hk:kOf0 r=q) (hk':kOf0 r'=q) (hd:den ρ m r u) (hd':den ρ m r' u'):kEq0 r r'=true ↔ u=u':=by
 cases d <;> simp only [keyOf,Option.some.injEq,reduceCtorEq] at hq
 ·subst hq
  obtain ⟨b,rfl⟩:=kOf0_b hk; obtain ⟨b',rfl⟩:=kOf0_b hk'; cases hd; cases hd'
  cases b <;> cases b' <;> simp [kEq0,gB,eqB,bf,notB]
 ·subst hq
  obtain ⟨z,rfl⟩:=kOf0_i hk; obtain ⟨z',rfl⟩:=kOf0_i hk'; cases hd; cases hd'
  show eqI z z'=true ↔ _
  rw [eqI_eq]; simp
 ·subst hq
  obtain ⟨l,rfl⟩:=kOf0_s hk; obtain ⟨l',rfl⟩:=kOf0_s hk'; obtain ⟨rfl,h1⟩:=hd; obtain ⟨rfl,h2⟩:=hd'
  show eqL l l'=true ↔ _
  rw [eqL_ok]
  constructor
  ·intro h; have:l=l':=by simpa using h
   rw [this]
  ·intro h
   have e:l.map UInt8.ofNat=l'.map UInt8.ofNat:=by simpa using h
   simp [bytes_inj h1 h2 e]
/-! keys that are structs -/
theorem kOf0_le (r:RV):kOf0 r≤10:=by
 cases r with
 | i k z=>show 3 + kN k≤10; cases k <;> decide
 | b x=>show 1≤10; omega
 | s l=>show 2≤10; omega
 | _=>exact Nat.zero_le _
theorem kOf_agg (c:RV):kOf (.agg c)=11 + 16 * kCode c:=rfl
theorem kOf_ptr (b o:Nat):kOf (.p b o)=12:=rfl
theorem kOf_np:kOf .np=12:=rfl
def Plain (r:RV):Prop:=(∀ c,r ≠ .agg c)∧r ≠ .np∧∀ b o,r ≠ .p b o
theorem kOf_plain {r:RV} (h:Plain r):kOf r=kOf0 r:=by
 obtain ⟨h1,h2,h3⟩:=h
 cases r <;> first | rfl | exact absurd rfl (h1 _) | exact absurd rfl h2 | exact absurd rfl (h3 _ _)
theorem kOf_small {r:RV} {q:Nat} (hk:kOf r=q) (hq:q≤10):kOf0 r=q∧Plain r:=by
 cases r with
 | agg c=>rw [kOf_agg] at hk; omega
 | np=>rw [kOf_np] at hk; omega
 | p b o=>rw [kOf_ptr] at hk; omega
 | _=>exact ⟨hk,(fun _=>by simp),(by simp),(fun _ _=>by simp)⟩
theorem kOf_large {r:RV} {q:Nat} (hk:kOf r=q) (hq:12 < q):∃ c,r=.agg c∧q=11 + 16 * kCode c:=by
 have key:∀ r,kOf r=q→kOf r=kOf0 r→False:=fun r h1 h2=>by have:=kOf0_le r; omega
 cases r with
 | agg c=>exact ⟨_,rfl,hk.symm⟩
 | np=>rw [kOf_np] at hk; omega
 | p b o=>rw [kOf_ptr] at hk; omega
 | _=>exact (key _ hk rfl).elim
theorem kOf_isPtr {r:RV} (hk:kOf r=12):r=.np ∨ ∃ b o,r=.p b o:=by
 have key:∀ r,kOf r=12→kOf r=kOf0 r→False:=fun r h1 h2=>by have:=kOf0_le r; omega
 cases r with
 | agg c=>rw [kOf_agg] at hk; omega
 | np=>exact .inl rfl
 | p b o=>exact .inr ⟨b,o,rfl⟩
 | _=>exact (key _ hk rfl).elim
theorem codeK_ge:∀ ks:List Nat,1≤codeK ks
 | []=>by decide
 | q::ks=>by show 1≤(q + 1) + 16 * codeK ks; omega
theorem keyOf_le {d:TypeDesc} {q:Nat} (h:keyOf d=some q):1≤q∧q≤10:=by
 cases d <;> simp only [keyOf,Option.some.injEq,reduceCtorEq] at h
 ·omega
 ·rename_i k; cases k <;> subst h <;> decide
 ·omega
inductive Cells (ρ:Nat→Int) (m:Mp):RV→List Nat→List Value→Prop
 | nil:Cells ρ m .nil [] []
 | cons {x r:RV} {q:Nat} {ks:List Nat} {u:Value} {us:List Value}:kOf0 x=q→den ρ m x u→Cells ρ m r ks us→Cells ρ m (.cons x r) (q::ks) (u::us)
theorem cells_of:∀ (ks:List Nat) (c:RV) (us:List Value),(∀ q ∈ ks,1≤q∧q≤10)→kCode c=codeK ks→denC ρ m c us→Cells ρ m c ks us
 | [],c,us,_,h,hd=>by
  have h:kCode c=12:=h
  cases c with
  | nil=>rw [denC_nil.1 hd]; exact .nil
  | cons x r=>
   have h2:(kOf0 x + 1) + 16 * kCode r=12:=h
   have:=kOf0_le x
   omega
  | _=>cases h
 | q::ks,c,us,hq,h,hd=>by
  have h:kCode c=(q + 1) + 16 * codeK ks:=h
  obtain ⟨q1,q2⟩:=hq q (.head _)
  cases c with
  | nil=>
   have h2:12=(q + 1) + 16 * codeK ks:=h
   omega
  | cons x r=>
   have h2:(kOf0 x + 1) + 16 * kCode r=(q + 1) + 16 * codeK ks:=h
   have:=kOf0_le x
   obtain ⟨u,us',rfl,h3,h4⟩:=denC_cons.1 hd
   exact .cons (by omega) h3 (cells_of ks r us' (fun z hz=>hq z (.tail _ hz)) (by omega) h4)
  | _=>
   exfalso
   have h2:0=(q + 1) + 16 * codeK ks:=h
   omega
def Kd1 (q:Nat):Prop:=q=1 ∨ ∃ k:IntKind,q=kNum k
theorem kinds_in:∀ {l:List Field} {i:Nat} {ks:List Nat},keyKinds P l i=some ks→kindsF P l i=some (ks.map fun q=>if q=1 then 0 else 1)∧∀ q ∈ ks,Kd1 q
 | [],i,ks,h=>by cases h; exact ⟨rfl,fun _ h=>by cases h⟩
 | f::l,i,ks,h=>by
  unfold keyKinds at h
  split at h
  case isFalse=>cases h
  rename_i hf
  split at h
  ·rename_i hu
   obtain ⟨ks',h1,rfl⟩:=Option.map_eq_some_iff.1 h
   obtain ⟨h2,h3⟩:=kinds_in h1
   refine ⟨?_,fun q hq=>?_⟩
   ·unfold kindsF
    rw [if_pos hf,hu]
    simp [h2]
   ·rcases List.mem_cons.1 hq with rfl | hq
    ·exact .inl rfl
    ·exact h3 q hq
  ·rename_i k hu
   obtain ⟨ks',h1,rfl⟩:=Option.map_eq_some_iff.1 h
   obtain ⟨h2,h3⟩:=kinds_in h1
   refine ⟨?_,fun q hq=>?_⟩
   ·unfold kindsF
    rw [if_pos hf,hu]
    have:kNum k ≠ 1:=by cases k <;> decide
    simp [h2,this]
   ·rcases List.mem_cons.1 hq with rfl | hq
    ·exact .inr ⟨k,rfl⟩
    ·exact h3 q hq
  ·cases h
theorem Kd1.rng {q:Nat} (h:Kd1 q):1≤q∧q≤10:=by
 rcases h with rfl | ⟨k,rfl⟩
 ·decide
 ·cases k <;> decide
theorem eqCell_kind {q:Nat} (hq:Kd1 q) {a b:RV} (ha:kOf0 a=q) (hb:kOf0 b=q):eqCell ys (if q=1 then 0 else 1) a b=.b (kEq0 a b):=by
 rcases hq with rfl | ⟨k,rfl⟩
 ·obtain ⟨x,rfl⟩:=kOf0_b ha
  obtain ⟨y,rfl⟩:=kOf0_b hb
  show mkB (eqB x y)=.b (eqB x y)
  rw [mkB_eq]
 ·have hk:kNum k ≠ 1:=by cases k <;> decide
  obtain ⟨x,rfl⟩:=kOf0_i ha
  obtain ⟨y,rfl⟩:=kOf0_i hb
  rw [if_neg hk]
  have e:eqCell ys 1 (.i k x) (.i k y)=binV ys .eql (.i k x) (.i k y):=rfl
  rw [e]
  show binII .eql k k x y=.b (eqI x y)
  have e2:binII .eql k k x y=bf (eqK k k) (mkB (eqI x y)) .un:=rfl
  rw [e2,show eqK k k=true from by cases k <;> rfl,mkB_eq]
  rfl
theorem eqCh_cells:∀ {ks:List Nat} {c d:RV} {us vs:List Value},(∀ q ∈ ks,Kd1 q)→Cells ρ m c ks us→Cells ρ m d ks vs→eqCh ys (ks.map fun q=>if q=1 then 0 else 1) c d=.b (kEqC c d)
 | [],_,_,_,_,_,.nil,.nil=>rfl
 | q::ks,_,_,_,_,hq,.cons (x:=x) (r:=r) h1 h2 h3,.cons (x:=y) (r:=s) h4 h5 h6=>by
  have e1:eqCh ys ((q::ks).map fun q=>if q=1 then 0 else 1) (.cons x r) (.cons y s)=gB RV.un (eqCell ys (if q=1 then 0 else 1) x y) fun z=>bf z (eqCh ys (ks.map fun q=>if q=1 then 0 else 1) r s) (.b false):=rfl
  have e2:kEqC (.cons x r) (.cons y s)=bf (kEq0 x y) (kEqC r s) false:=rfl
  rw [e1,e2,eqCell_kind (hq q (.head _)) h1 h4]
  show bf (kEq0 x y) (eqCh ys (ks.map fun q=>if q=1 then 0 else 1) r s) (.b false)=_
  rw [eqCh_cells (fun z hz=>hq z (.tail _ hz)) h3 h6]
  cases kEq0 x y <;> rfl
theorem Kd1.keyOf {q:Nat} (h:Kd1 q):∃ d,Go.Rn.keyOf d=some q:=by
 rcases h with rfl | ⟨k,rfl⟩
 ·exact ⟨.bool,rfl⟩
 ·exact ⟨.int k,rfl⟩
theorem kEqC_ok:∀ {ks:List Nat} {c d:RV} {us vs:List Value},(∀ q ∈ ks,Kd1 q)→Cells ρ m c ks us→Cells ρ m d ks vs→(kEqC c d=true ↔ us=vs)
 | [],_,_,_,_,_,.nil,.nil=>⟨fun _=>rfl,fun _=>rfl⟩
 | q::ks,_,_,_,_,hq,.cons (x:=x) (r:=r) h1 h2 h3,.cons (x:=y) (r:=s) h4 h5 h6=>by
  have e2:kEqC (.cons x r) (.cons y s)=bf (kEq0 x y) (kEqC r s) false:=rfl
  obtain ⟨d,hd⟩:=(hq q (.head _)).keyOf
  have i1:=kEq0_ok hd h1 h4 h2 h5
  have i2:=kEqC_ok (fun z hz=>hq z (.tail _ hz)) h3 h6
  rw [e2,bf_eq]
  constructor
  ·intro h
   split at h
   ·rename_i h7; rw [i1.1 h7,i2.1 h]
   ·cases h
  ·intro h
   simp only [List.cons.injEq] at h
   rw [if_pos (i1.2 h.1)]
   exact i2.2 h.2
theorem keyType_or {kt:TypeId} {q:Nat} (h:keyType P kt=some q):(∃ d,P.underlying kt=some d∧keyOf d=some q) ∨
  (∃ fs ks,P.underlying kt=some (.struct fs)∧keyKinds P fs.toList 0=some ks∧P.stoodInHeld kt=false∧q=11 + 16 * codeK ks) ∨ ∃ el sz,P.underlying kt=some (.pointer el)∧szOf P el=some sz∧sz ≠ 0∧q=12:=by
 unfold keyType at h
 split at h
 ·rename_i fs hu
  split at h
  ·cases h
  ·rename_i hs
   obtain ⟨ks,h1,rfl⟩:=Option.map_eq_some_iff.1 h
   exact .inr (.inl ⟨fs,ks,hu,h1,by simpa using hs,rfl⟩)
 ·rename_i el hu
  split at h
  ·cases h
  ·rename_i hs
   cases h
   cases hz:szOf P el with
   | none=>rw [hz] at hs; simp at hs
   | some sz=>rw [hz] at hs; exact .inr (.inr ⟨el,sz,hu,hz,by simpa using hs,rfl⟩)
 ·rename_i d _ _ hu; exact .inl ⟨d,hu,h⟩
 ·cases h
theorem kOf_key {d:TypeDesc} {q:Nat} {r:RV} {u:Value} (hq:keyOf d=some q) (hk:kOf r=q) (hd:den ρ m r u):MapKept.IsKey d u:=kOf0_key hq (kOf_small hk (keyOf_le hq).2).1 hd
/-! keys with letters in them -/
theorem kOz0_b {r:RV} (hk:kOz0 r=1):∃ b,r=.b b:=by
 cases r <;> first | exact ⟨_,rfl⟩ | cases hk; done | (rename_i j z; exfalso; revert hk; cases j <;> intro hk <;> cases hk)
theorem kOz0_s {r:RV} (hk:kOz0 r=2):∃ l,r=.s l:=by
 cases r <;> first | exact ⟨_,rfl⟩ | cases hk; done | (rename_i j z; exfalso; revert hk; cases j <;> intro hk <;> cases hk)
theorem kOz0_i {r:RV} {k:IntKind} (hk:kOz0 r=kNum k):(∃ z,r=.i k z) ∨ ∃ e,r=.y k e:=by
 cases r with
 | i j z=>left; revert hk; cases k <;> cases j <;> intro hk <;> first | exact ⟨_,rfl⟩ | cases hk
 | y j z=>right; revert hk; cases k <;> cases j <;> intro hk <;> first | exact ⟨_,rfl⟩ | cases hk
 | _=>exfalso; revert hk; cases k <;> intro hk <;> cases hk
theorem kOz0_le (r:RV):kOz0 r≤10:=by
 cases r with
 | i k z=>show 3 + kN k≤10; cases k <;> decide
 | y k z=>show 3 + kN k≤10; cases k <;> decide
 | b x=>show 1≤10; omega
 | s l=>show 2≤10; omega
 | _=>exact Nat.zero_le _
theorem num_z {r:RV} {k:IntKind} {u:Value} (hk:kOz0 r=kNum k) (hd:den ρ m r u):∃ e:SE,u=.int k (e.val ρ)∧∀ {α:Type} (d:α) (f:IntKind→SE→α),gY d r f=f k e:=by
 rcases kOz0_i hk with ⟨z,rfl⟩ | ⟨e,rfl⟩
 ·exact ⟨.c z,hd,fun _ _=>rfl⟩
 ·exact ⟨e,hd,fun _ _=>rfl⟩
theorem conc0 {d:TypeDesc} {q:Nat} {r:RV} {u:Value} (hq:keyOf d=some q) (hk:kOz0 r=q) (hd:den ρ m r u):∃ r',kOf0 r'=q∧Plain r'∧den ρ m r' u:=by
 cases d <;> simp only [keyOf,Option.some.injEq,reduceCtorEq] at hq
 ·subst hq; obtain ⟨b,rfl⟩:=kOz0_b hk
  exact ⟨_,rfl,⟨fun _=>by simp,by simp,fun _ _=>by simp⟩,hd⟩
 ·subst hq
  rename_i k
  obtain ⟨e,rfl,_⟩:=num_z hk hd
  exact ⟨.i k (e.val ρ),by cases k <;> rfl,⟨fun _=>by simp,by simp,fun _ _=>by simp⟩,rfl⟩
 ·subst hq; obtain ⟨l,rfl⟩:=kOz0_s hk
  exact ⟨_,rfl,⟨fun _=>by simp,by simp,fun _ _=>by simp⟩,hd⟩
theorem neS_ok {a b:SE} (h:neS a b=true):a.val ρ ≠ b.val ρ:=by
 unfold neS at h
 split at h
 ·rename_i x y
  have h2:eqI x y=false:=by
   cases hq:eqI x y with
   | false=>rfl
   | true=>rw [hq] at h; cases h
  rw [eqI_eq] at h2
  show x ≠ y
  simpa using h2
 ·cases h
theorem kEz0_ok (hy:YsOk ρ ys) {d:TypeDesc} {q:Nat} {r r':RV} {u u':Value} (hq:keyOf d=some q) (hk:kOz0 r=q) (hk':kOz0 r'=q) (hd:den ρ m r u) (hd':den ρ m r' u'):(kEz0 ys r r'=true→u=u')∧(kNz0 ys r r'=true→u ≠ u'):=by
 cases d <;> simp only [keyOf,Option.some.injEq,reduceCtorEq] at hq
 ·subst hq
  obtain ⟨b,rfl⟩:=kOz0_b hk; obtain ⟨b',rfl⟩:=kOz0_b hk'; cases hd; cases hd'
  cases b <;> cases b' <;> simp [kEz0,kNz0,gB,eqB,bf,notB]
 ·subst hq
  obtain ⟨e,rfl,he⟩:=num_z hk hd
  obtain ⟨f,rfl,hf⟩:=num_z hk' hd'
  have hg:∀ (α:Type) (d0:α) (g:Bool→α),gB d0 r g=d0:=fun α d0 g=>by
   rcases kOz0_i hk with ⟨z,rfl⟩ | ⟨z,rfl⟩ <;> rfl
  have e1:kEz0 ys r r'=bf (eqS e f) true (yT (ys .eql e f)):=by
   unfold kEz0
   rw [hg,he,hf]
  have e2:kNz0 ys r r'=bf (neS e f) true (yF (ys .eql e f)):=by
   unfold kNz0
   rw [hg,he,hf]
  rw [e1,e2]
  have hq:∀ x,ys .eql e f=some x→(e.val ρ == f.val ρ)=x:=fun x hx=>by
   rcases hy _ _ _ _ hx with h | ⟨h,_⟩
   ·exact Option.some.inj h
   ·cases h
  rw [bf_eq,bf_eq]
  refine ⟨fun h=>?_,fun h hu=>?_⟩
  ·split at h
   ·rename_i h1; rw [eqS_ok _ _ h1]
   ·unfold yT at h
    split at h
    ·rename_i x hx
     subst h
     rw [eq_of_beq (hq _ hx)]
    ·cases h
  ·have hu':e.val ρ=f.val ρ:=by simpa using hu
   split at h
   ·rename_i h1; exact neS_ok (ρ:=ρ) h1 hu'
   ·unfold yF at h
    split at h
    ·rename_i x hx
     have h2:=hq _ hx
     rw [hu'] at h2
     cases x with
     | false=>simp at h2
     | true=>cases h
    ·cases h
 ·subst hq
  obtain ⟨l,rfl⟩:=kOz0_s hk; obtain ⟨l',rfl⟩:=kOz0_s hk'; obtain ⟨rfl,h1⟩:=hd; obtain ⟨rfl,h2⟩:=hd'
  refine ⟨fun h=>?_,fun h hu=>?_⟩
  ·have h':eqL l l'=true:=h
   rw [eqL_ok] at h'
   have:l=l':=by simpa using h'
   rw [this]
  ·have h':notB (eqL l l')=true:=h
   have e:l.map UInt8.ofNat=l'.map UInt8.ofNat:=by simpa using hu
   have e2:eqL l l'=true:=by
    rw [eqL_ok]
    simp [bytes_inj h1 h2 e]
   rw [e2] at h'
   cases h'
theorem kOz_agg (c:RV):kOz (.agg c)=11 + 16 * kCodz c:=rfl
theorem kOz_small {r:RV} {q:Nat} (hk:kOz r=q) (hq:q≤10):kOz0 r=q∧Plain r:=by
 cases r with
 | agg c=>rw [kOz_agg] at hk; omega
 | np=>exact absurd hk (show (12:Nat) ≠ q by omega)
 | p b o=>exact absurd hk (show (12:Nat) ≠ q by omega)
 | _=>exact ⟨hk,(fun _=>by simp),(by simp),(fun _ _=>by simp)⟩
theorem kOz_large {r:RV} {q:Nat} (hk:kOz r=q) (hq:12 < q):∃ c,r=.agg c∧q=11 + 16 * kCodz c:=by
 have key:∀ r,kOz r=q→kOz r=kOz0 r→False:=fun r h1 h2=>by have:=kOz0_le r; omega
 cases r with
 | agg c=>exact ⟨_,rfl,hk.symm⟩
 | np=>exact absurd hk (show (12:Nat) ≠ q by omega)
 | p b o=>exact absurd hk (show (12:Nat) ≠ q by omega)
 | _=>exact (key _ hk rfl).elim
theorem mFind_ok (hy:YsOk ρ ys) {d:TypeDesc} {q:Nat} {r:RV} {u:Value} {c:CT} {es:List MapEntry} (hq:keyOf d=some q) (hk:kOz r=q) (hd:den ρ m r u)
  (hes:∀ i e,es[i]?=some e→den ρ m (cg c (1 + 2 * i)) e.key):∀ (s i:Nat) (x:Option Nat),i + s=es.length→mFind ys q c r s i=some x →
  (x=none∧Instr.findNow d u (es.drop i) i=some none) ∨ ∃ j e,x=some j∧es[j]?=some e∧e.key=u∧Instr.findNow d u (es.drop i) i=some (some (j,e.val))
 | 0,i,x,hl,h=>by
  have h':some none=some x:=h
  cases h'
  rw [List.drop_eq_nil_of_le (by omega)]
  exact .inl ⟨rfl,rfl⟩
 | s + 1,i,x,hl,h=>by
  have hlt:i < es.length:=by omega
  have he:es[i]?=some es[i]:=List.getElem?_eq_getElem hlt
  have h':bf (Nat.beq (kOz (cg c (1 + 2 * i))) q) (bf (kEz ys r (cg c (1 + 2 * i))) (some (some i)) (bf (kNz ys r (cg c (1 + 2 * i))) (mFind ys q c r s (i + 1)) none)) none=some x:=h
  rw [bf_eq,bf_eq,bf_eq] at h'
  split at h'
  ·rename_i h1
   have h1:=Nat.eq_of_beq_eq_true h1
   have hde:=hes i _ he
   obtain ⟨k1,p1⟩:=kOz_small hk (keyOf_le hq).2
   obtain ⟨k2,_⟩:=kOz_small h1 (keyOf_le hq).2
   have ez:kEz ys r (cg c (1 + 2 * i))=kEz0 ys r (cg c (1 + 2 * i))∧kNz ys r (cg c (1 + 2 * i))=kNz0 ys r (cg c (1 + 2 * i)):=by
    obtain ⟨q1,q2,q3⟩:=p1
    cases r <;> first | exact ⟨rfl,rfl⟩ | exact absurd rfl (q1 _) | exact absurd rfl q2 | exact absurd rfl (q3 _ _)
   have hiff:=kEz0_ok hy hq k1 k2 hd hde
   rw [← ez.1,← ez.2] at hiff
   obtain ⟨r1,f1,_,f2⟩:=conc0 hq k1 hd
   obtain ⟨r2,f3,_,f4⟩:=conc0 hq k2 hde
   obtain ⟨b,hb,hbi⟩:=MapKept.sameNow_of_keys (kOf0_key hq f1 f2) (kOf0_key hq f3 f4)
   rw [List.drop_eq_getElem_cons hlt]
   split at h'
   ·rename_i h2
    cases h'
    have:u=es[i].key:=hiff.1 h2
    have hbt:b=true:=hbi.2 this
    subst hbt
    exact .inr ⟨i,_,rfl,he,this.symm,by simp [Instr.findNow,hb]⟩
   ·rename_i h2
    split at h'
    case isFalse=>cases h'
    rename_i hne
    have hbf:b=false:=by
     cases b with
     | false=>rfl
     | true=>exact absurd (hbi.1 rfl) (hiff.2 hne)
    subst hbf
    rcases mFind_ok hy hq hk hd hes s (i + 1) x (by omega) h' with ⟨h3,h4⟩ | ⟨j,e,h3,h4,h5,h6⟩
    ·exact .inl ⟨h3,by simp [Instr.findNow,hb,h4]⟩
    ·exact .inr ⟨j,e,h3,h4,h5,by simp [Instr.findNow,hb,h6]⟩
  ·cases h'
theorem cg_cst_in (c:CT) (x:RV) (k:Nat) (hk:k < 8388608):cg (cst c x k) k=x:=by
 unfold cg cst
 exact get_set_in _ _ _ _ (Nat.succ_le_succ (Nat.zero_le k)) (Nat.lt_trans (Nat.succ_lt_succ hk) (by decide))
theorem cg_cst_ne (c:CT) (x:RV) {k j:Nat} (h:j ≠ k):cg (cst c x k) j=cg c j:=by
 rcases cg_cst c x k j with ⟨h1,_⟩ | ⟨_,h1⟩
 ·exact absurd h1 h
 ·exact h1
theorem struct_key {fs:Array Field} {ks:List Nat} (h1:keyKinds P fs.toList 0=some ks) {r:RV} {u:Value} (hk:kOf r=11 + 16 * codeK ks) (hd:den ρ m r u):∃ c us,r=.agg c∧u=.agg us.toArray∧denC ρ m c us∧Cells ρ m c ks us:=by
 have:=codeK_ge ks
 obtain ⟨c,rfl,h2⟩:=kOf_large hk (by omega)
 obtain ⟨us,h3,_,rfl⟩:=hd
 exact ⟨c,us,rfl,rfl,h3,cells_of ks c us (fun q hq=>((kinds_in h1).2 q hq).rng) (by omega) h3⟩
theorem fields_ok {n:Nat} {b:Bool} (w:World) {xs:Array Value}:∀ {l:List Field} {i:Nat} {ks:List Nat} {c:RV} {us:List Value},keyKinds P l i=some ks→Cells ρ m c ks us→(∀ (j:Nat) (u:Value),us[j]?=some u→xs[i + j]?=some u) →
  ((forIn l () fun f _=>do
    if f.name ≠ "_" then Instr.checkKey b (n + 1) f.type (← part f.type xs f.offset)
    pure (ForInStep.yield ())):Sem Unit).run P w=.ok () w
 | [],i,ks,c,us,_,_,_=>by simp
 | f::l,i,ks,c,us,hk,hc,hx=>by
  unfold keyKinds at hk
  split at hk
  case isFalse=>cases hk
  rename_i hf
  obtain ⟨ho,hn⟩:=hf
  have key:∃ q ks' d,ks=q::ks'∧keyKinds P l (i + 1)=some ks'∧aggOf P f.type=some false∧P.underlying f.type=some d∧keyOf d=some q:=by
   split at hk
   ·rename_i hu
    obtain ⟨ks',h1,rfl⟩:=Option.map_eq_some_iff.1 hk
    exact ⟨_,_,_,rfl,h1,by unfold aggOf; rw [hu]; rfl,hu,rfl⟩
   ·rename_i j hu
    obtain ⟨ks',h1,rfl⟩:=Option.map_eq_some_iff.1 hk
    exact ⟨_,_,_,rfl,h1,by unfold aggOf; rw [hu]; rfl,hu,rfl⟩
   ·cases hk
  obtain ⟨q,ks',d,rfl,hk',hag,hu,hq⟩:=key
  cases hc with
  | cons h1 h2 h3=>
   rename_i x r u us'
   have hx0:=hx 0 u rfl
   rw [Nat.add_zero] at hx0
   have px:(part f.type xs f.offset).run P w=.ok u w:=by simp [part,aggOf_run hag,ho,hx0]
   have hck:(Instr.checkKey b (n + 1) f.type u).run P w=.ok () w:=MapKept.run_checkKey hu (kOf0_key hq h1 h2) b n
   have ih:=fields_ok (n:=n) (b:=b) w hk' h3 (fun j u hj=>by have:=hx (j + 1) u (by simpa using hj); rwa [show i + (j + 1)=i + 1 + j by omega] at this)
   rw [List.forIn_cons]
   simp [hn,px,hck]
   simpa using ih
theorem ptr_den {r:RV} {u:Value} (hk:kOf r=12) (hd:den ρ m r u):∃ a,u=.pointer a:=by
 rcases kOf_isPtr hk with rfl | ⟨b,o,rfl⟩
 ·exact ⟨_,hd⟩
 ·obtain ⟨_,_,_,_,rfl⟩:=hd; exact ⟨_,rfl⟩
theorem check_ok0 {kt:TypeId} {q:Nat} {r:RV} {u:Value} (hq:keyType P kt=some q) (hk:kOf r=q) (hd:den ρ m r u) (b:Bool) (w:World):(Instr.checkKey b 10000 kt u).run P w=.ok () w:=by
 rcases keyType_or hq with ⟨d,h1,h2⟩ | ⟨fs,ks,h1,h2,h3,rfl⟩ | ⟨el,sz,h1,_,_,rfl⟩
 rotate_left 2
 ·obtain ⟨a,rfl⟩:=ptr_den hk hd
  unfold Instr.checkKey
  simp [run_underlying h1]
 ·exact MapKept.run_checkKey h1 (kOf_key h2 hk hd) b 9999
 ·obtain ⟨c,us,rfl,rfl,h4,h5⟩:=struct_key h2 hk hd
  have:=fields_ok (n:=9998) (b:=b) w (xs:=us.toArray) h2 h5 (fun j u hj=>by simpa using hj)
  unfold Instr.checkKey
  simp [run_underlying h1]
  rw [← Array.forIn_toList]
  simpa using this
theorem sameBits_cells:∀ {ks:List Nat} {c:RV} {us:List Value},(∀ q ∈ ks,Kd1 q)→Cells ρ m c ks us→∀ n,((us.zip us).all fun (x,y)=>Instr.sameBits n x y)=true
 | [],_,_,_,.nil,_=>rfl
 | q::ks,_,_,hq,.cons (u:=u) h1 h2 h3,n=>by
  have hs:Instr.sameBits n u u=true:=by
   obtain ⟨d,hd⟩:=(hq q (.head _)).keyOf
   have hi:=kOf0_key hd h1 h2
   cases d <;> cases u <;> simp_all [MapKept.IsKey] <;> (unfold Instr.sameBits; simp [MapKept.bytes_beq])
  simp only [List.zip_cons_cons,List.all_cons,hs,Bool.true_and]
  exact sameBits_cells (fun z hz=>hq z (.tail _ hz)) h3 n
theorem stay_ok0 {kt:TypeId} {q:Nat} {r:RV} {u:Value} (hq:keyType P kt=some q) (hk:kOf r=q) (hd:den ρ m r u) (w:World):(Instr.keyThatStays u u).run P w=.ok u w:=by
 rcases keyType_or hq with ⟨d,h1,h2⟩ | ⟨fs,ks,h1,h2,h3,rfl⟩ | ⟨el,sz,h1,_,_,rfl⟩
 rotate_left 2
 ·obtain ⟨a,rfl⟩:=ptr_den hk hd
  have h7:Instr.sameBits 10000 (.pointer a) (.pointer a)=true:=by
   rw [Instr.sameBits]; simp
  simp [Instr.keyThatStays,h7]
 ·exact MapKept.run_keyThatStays (kOf_key h2 hk hd)
 ·obtain ⟨c,us,rfl,rfl,h4,h5⟩:=struct_key h2 hk hd
  have h6:=sameBits_cells (kinds_in h2).2 h5 9999
  have h7:Instr.sameBits 10000 (.agg us.toArray) (.agg us.toArray)=true:=by
   rw [Instr.sameBits]
   simpa using h6
  simp [Instr.keyThatStays,h7]
inductive Cz (ρ:Nat→Int) (m:Mp):RV→List Nat→List Value→Prop
 | nil:Cz ρ m .nil [] []
 | cons {x r:RV} {q:Nat} {ks:List Nat} {u:Value} {us:List Value}:kOz0 x=q→den ρ m x u→Cz ρ m r ks us→Cz ρ m (.cons x r) (q::ks) (u::us)
theorem cz_of:∀ (ks:List Nat) (c:RV) (us:List Value),(∀ q ∈ ks,1≤q∧q≤10)→kCodz c=codeK ks→denC ρ m c us→Cz ρ m c ks us
 | [],c,us,_,h,hd=>by
  have h:kCodz c=12:=h
  cases c with
  | nil=>rw [denC_nil.1 hd]; exact .nil
  | cons x r=>
   have h2:(kOz0 x + 1) + 16 * kCodz r=12:=h
   have:=kOz0_le x
   omega
  | _=>cases h
 | q::ks,c,us,hq,h,hd=>by
  have h:kCodz c=(q + 1) + 16 * codeK ks:=h
  obtain ⟨q1,q2⟩:=hq q (.head _)
  cases c with
  | nil=>
   have h2:12=(q + 1) + 16 * codeK ks:=h
   omega
  | cons x r=>
   have h2:(kOz0 x + 1) + 16 * kCodz r=(q + 1) + 16 * codeK ks:=h
   have:=kOz0_le x
   obtain ⟨u,us',rfl,h3,h4⟩:=denC_cons.1 hd
   exact .cons (by omega) h3 (cz_of ks r us' (fun z hz=>hq z (.tail _ hz)) (by omega) h4)
  | _=>
   exfalso
   have h2:0=(q + 1) + 16 * codeK ks:=h
   omega
theorem Cells.den {c:RV} {ks:List Nat} {us:List Value} (h:Cells ρ m c ks us):denC ρ m c us∧kCode c=codeK ks:=by
 induction h with
 | nil=>exact ⟨denC_nil.2 rfl,rfl⟩
 | cons h1 h2 _ ih=>
  refine ⟨denC_cons.2 ⟨_,_,rfl,h2,ih.1⟩,?_⟩
  show (kOf0 _ + 1) + 16 * kCode _=_
  rw [h1,ih.2]; rfl
theorem Cz.conc {c:RV} {ks:List Nat} {us:List Value} (h:Cz ρ m c ks us):(∀ q ∈ ks,Kd1 q)→∃ c',Cells ρ m c' ks us:=by
 induction h with
 | nil=>exact fun _=>⟨_,.nil⟩
 | cons h1 h2 _ ih=>
  intro hq
  obtain ⟨d,hd⟩:=(hq _ (.head _)).keyOf
  obtain ⟨r',k1,_,k2⟩:=conc0 hd h1 h2
  obtain ⟨c',k3⟩:=ih fun z hz=>hq z (.tail _ hz)
  exact ⟨_,.cons k1 k2 k3⟩
theorem cz_cmp (hy:YsOk ρ ys):∀ {ks:List Nat} {c d:RV} {us vs:List Value},(∀ q ∈ ks,Kd1 q)→Cz ρ m c ks us→Cz ρ m d ks vs→(kEzC ys c d=true→us=vs)∧(kNzC ys c d=true→us ≠ vs)
 | [],_,_,_,_,_,.nil,.nil=>⟨fun _=>rfl,fun h=>by cases h⟩
 | q::ks,_,_,_,_,hq,.cons (x:=x) (r:=r) h1 h2 h3,.cons (x:=y) (r:=s) h4 h5 h6=>by
  obtain ⟨d,hd⟩:=(hq q (.head _)).keyOf
  have i1:=kEz0_ok hy hd h1 h4 h2 h5
  have i2:=cz_cmp hy (fun z hz=>hq z (.tail _ hz)) h3 h6
  have e1:kEzC ys (.cons x r) (.cons y s)=bf (kEz0 ys x y) (kEzC ys r s) false:=rfl
  have e2:kNzC ys (.cons x r) (.cons y s)=bf (kNz0 ys x y) true (kNzC ys r s):=rfl
  rw [e1,e2,bf_eq,bf_eq]
  refine ⟨fun h=>?_,fun h he=>?_⟩
  ·split at h
   ·rename_i h7; rw [i1.1 h7,i2.1 h]
   ·cases h
  ·simp only [List.cons.injEq] at he
   split at h
   ·rename_i h7; exact i1.2 h7 he.1
   ·exact i2.2 h he.2
theorem ptr_z {r:RV} (hk:kOz r=12):kOf r=12∧∀ b,kEz ys r b=kEq r b∧kNz ys r b=notB (kEq r b):=by
 have key:∀ r,kOz r=12→kOz r=kOz0 r→False:=fun r h1 h2=>by have:=kOz0_le r; omega
 cases r with
 | agg c=>rw [kOz_agg] at hk; omega
 | np=>exact ⟨rfl,fun _=>⟨rfl,rfl⟩⟩
 | p b o=>exact ⟨rfl,fun _=>⟨rfl,rfl⟩⟩
 | _=>exact (key _ hk rfl).elim
theorem struct_keyz {P:Program} {fs:Array Field} {ks:List Nat} (h1:keyKinds P fs.toList 0=some ks) {r:RV} {u:Value} (hk:kOz r=11 + 16 * codeK ks) (hd:den ρ m r u):∃ c us,r=.agg c∧u=.agg us.toArray∧denC ρ m c us∧Cz ρ m c ks us∧∀ x ∈ us,Cell x:=by
 have:=codeK_ge ks
 obtain ⟨c,rfl,h2⟩:=kOz_large hk (by omega)
 obtain ⟨us,h3,h5,rfl⟩:=hd
 exact ⟨c,us,rfl,rfl,h3,cz_of ks c us (fun q hq=>((kinds_in h1).2 q hq).rng) (by omega) h3,h5⟩
theorem conc {kt:TypeId} {q:Nat} {r:RV} {u:Value} (hq:keyType P kt=some q) (hk:kOz r=q) (hd:den ρ m r u):∃ r',kOf r'=q∧den ρ m r' u:=by
 rcases keyType_or hq with ⟨d,h1,h2⟩ | ⟨fs,ks,h1,h2,h3,rfl⟩ | ⟨el,sz,h1,_,_,rfl⟩
 ·obtain ⟨h4,_⟩:=kOz_small hk (keyOf_le h2).2
  obtain ⟨r',k1,k2,k3⟩:=conc0 h2 h4 hd
  exact ⟨r',by rw [kOf_plain k2]; exact k1,k3⟩
 ·obtain ⟨c,us,rfl,rfl,_,h5,h6⟩:=struct_keyz h2 hk hd
  obtain ⟨c',h7⟩:=h5.conc (kinds_in h2).2
  exact ⟨.agg c',by rw [kOf_agg,h7.den.2],us,h7.den.1,h6,rfl⟩
 ·exact ⟨r,(ptr_z (ys:=fun _ _ _=>none) hk).1,hd⟩
theorem check_ok {kt:TypeId} {q:Nat} {r:RV} {u:Value} (hq:keyType P kt=some q) (hk:kOz r=q) (hd:den ρ m r u) (b:Bool) (w:World):(Instr.checkKey b 10000 kt u).run P w=.ok () w:=by
 obtain ⟨r',h1,h2⟩:=conc hq hk hd
 exact check_ok0 hq h1 h2 b w
theorem stay_ok {kt:TypeId} {q:Nat} {r:RV} {u:Value} (hq:keyType P kt=some q) (hk:kOz r=q) (hd:den ρ m r u) (w:World):(Instr.keyThatStays u u).run P w=.ok u w:=by
 obtain ⟨r',h1,h2⟩:=conc hq hk hd
 exact stay_ok0 hq h1 h2 w
theorem kOz_un {kt:TypeId} {q:Nat} {r:RV} (hq:keyType P kt=some q) (h:kOz r=q):r ≠ .un:=by
 intro e
 subst e
 have h':0=q:=h
 rcases keyType_or hq with ⟨d,h1,h2⟩ | ⟨fs,ks,h1,h2,h3,rfl⟩ | ⟨el,sz,h1,_,_,rfl⟩
 ·have:=(keyOf_le h2).1; omega
 ·omega
 ·omega
theorem ask_ok (hy:YsOk ρ ys) {kt:TypeId} {fs:Array Field} {ks:List Nat} (hu:P.underlying kt=some (.struct fs)) (hs:P.stoodInHeld kt=false) (h1:keyKinds P fs.toList 0=some ks) {r:RV} {u:Value} {c:CT} {es:List MapEntry} (hk:kOz r=11 + 16 * codeK ks) (hd:den ρ m r u) (w:World)
  (hes:∀ i e,es[i]?=some e→den ρ m (cg c (1 + 2 * i)) e.key):∀ (s i:Nat) (x:Option Nat),i + s=es.length→mFind ys (11 + 16 * codeK ks) c r s i=some x →
  (x=none∧(Instr.findAsking kt u (es.drop i) i).run P w=.ok none w) ∨ ∃ j e,x=some j∧es[j]?=some e∧e.key=u∧(Instr.findAsking kt u (es.drop i) i).run P w=.ok (some (j,e.val)) w
 | 0,i,x,hl,h=>by
  have h':some none=some x:=h
  cases h'
  rw [List.drop_eq_nil_of_le (by omega)]
  exact .inl ⟨rfl,rfl⟩
 | s + 1,i,x,hl,h=>by
  have hlt:i < es.length:=by omega
  have he:es[i]?=some es[i]:=List.getElem?_eq_getElem hlt
  have h':bf (Nat.beq (kOz (cg c (1 + 2 * i))) (11 + 16 * codeK ks)) (bf (kEz ys r (cg c (1 + 2 * i))) (some (some i)) (bf (kNz ys r (cg c (1 + 2 * i))) (mFind ys (11 + 16 * codeK ks) c r s (i + 1)) none)) none=some x:=h
  rw [bf_eq,bf_eq,bf_eq] at h'
  split at h'
  ·rename_i h2
   have h2:=Nat.eq_of_beq_eq_true h2
   have hde:=hes i _ he
   obtain ⟨c1,us,rfl,rfl,_,g2,_⟩:=struct_keyz h1 hk hd
   obtain ⟨c2,vs,hc2,hv2,_,g4,_⟩:=struct_keyz h1 h2 hde
   rw [hc2] at h'
   have hcmp:=cz_cmp hy (kinds_in h1).2 g2 g4
   obtain ⟨d1,q1⟩:=g2.conc (kinds_in h1).2
   obtain ⟨d2,q2⟩:=g4.conc (kinds_in h1).2
   have hiff:=kEqC_ok (kinds_in h1).2 q1 q2
   have heq:(Op.equal kt (.agg us.toArray) es[i].key).run P w=.ok (kEqC d1 d2) w:=by
    rw [hv2]
    exact equalSe (ys:=fun _ _ _=>none) (ρ:=ρ) (m:=m) (fun _ _ _ _ h=>by cases h) hu hs (kinds_in h1).1 q1.den.1 q2.den.1 (eqCh_cells (kinds_in h1).2 q1 q2) w
   rw [List.drop_eq_getElem_cons hlt]
   split at h'
   ·rename_i h3
    cases h'
    have:us=vs:=hcmp.1 h3
    have h3':=hiff.2 this
    exact .inr ⟨i,_,rfl,he,by rw [hv2,this],by simp [Instr.findAsking,heq,h3']⟩
   ·split at h'
    case isFalse=>cases h'
    rename_i h3
    have h3:kEqC d1 d2=false:=by
     cases hq:kEqC d1 d2 with
     | false=>rfl
     | true=>exact absurd (hiff.1 hq) (hcmp.2 h3)
    rcases ask_ok hy hu hs h1 hk hd w hes s (i + 1) x (by omega) h' with ⟨h4,h5⟩ | ⟨j,e,h4,h5,h6,h7⟩
    ·exact .inl ⟨h4,by simp [Instr.findAsking,heq,h3,h5]⟩
    ·exact .inr ⟨j,e,h4,h5,h6,by simp [Instr.findAsking,heq,h3,h7]⟩
  ·cases h'
theorem alive_ok {v:RV} (ha:alive fl h v=true) {b o:Nat} (hv:v=.p b o):fl≤b∧∃ c z,hg h b=.bk c z∧z ≠ MAPZ:=by
 subst hv
 have ha:bf (Nat.ble fl b) (isBk (hg h b)) false=true:=ha
 obtain ⟨h1,h2⟩:=bf_ok ha (by simp)
 refine ⟨ble_ok h1,?_⟩
 cases hb:hg h b with
 | no=>rw [hb] at h2; cases h2
 | bk c z=>
  rw [hb] at h2
  have h2:notB (Nat.beq z MAPZ)=true:=h2
  refine ⟨c,z,rfl,fun e=>?_⟩
  rw [e,show Nat.beq MAPZ MAPZ=true from Nat.beq_refl _] at h2
  cases h2
theorem ptr_eq (s:Sim P ρ m g h w) (hgf:g≤fl) {kt el:TypeId} {sz:Nat} (hu:P.underlying kt=some (.pointer el)) (hsz:szOf P el=some sz) (h0:sz ≠ 0) {r r':RV} {u u':Value} (hk:kOf r=12) (hk':kOf r'=12) (ha:alive fl h r=true) (ha':alive fl h r'=true)
  (hd:den ρ m r u) (hd':den ρ m r' u'):(kEq r r'=true ↔ u=u')∧∀ d,(Op.equalIn (d + 1) kt u u').run P w=.ok (kEq r r') w:=by
 rcases kOf_isPtr hk with rfl | ⟨b,o,rfl⟩
 ·have hd:u=.pointer none:=hd
  subst hd
  rcases kOf_isPtr hk' with rfl | ⟨b',o',rfl⟩
  ·have hd':u'=.pointer none:=hd'
   subst hd'
   refine ⟨⟨fun _=>rfl,fun _=>rfl⟩,fun d=>?_⟩
   simp [Op.equalIn,run_underlying hu]
   rfl
  ·obtain ⟨B',O',Z',_,rfl⟩:=hd'
   refine ⟨⟨(fun e=>by cases e),(fun e=>by simp at e)⟩,fun d=>?_⟩
   simp [Op.equalIn,run_underlying hu]
   rfl
 ·obtain ⟨B,O,Z,hm,rfl⟩:=hd
  rcases kOf_isPtr hk' with rfl | ⟨b',o',rfl⟩
  ·have hd':u'=.pointer none:=hd'
   subst hd'
   refine ⟨⟨(fun e=>by cases e),(fun e=>by simp at e)⟩,fun d=>?_⟩
   simp [Op.equalIn,run_underlying hu]
   rfl
  ·obtain ⟨B',O',Z',hm',rfl⟩:=hd'
   obtain ⟨f1,c1,z1,g1,n1⟩:=alive_ok ha rfl
   obtain ⟨f2,c2,z2,g2,n2⟩:=alive_ok ha' rfl
   obtain ⟨B1,O1,Z1,C1,e1,fr1,k1,k2,_,k3,_,_⟩:=s.cells b c1 z1 g1 n1
   obtain ⟨B2,O2,Z2,C2,e2,fr2,l1,l2,_,l3,_,_⟩:=s.cells b' c2 z2 g2 n2
   rw [hm] at k1; cases k1
   rw [hm'] at l1; cases l1
   obtain rfl:=k3 (.inl (Nat.le_trans hgf f1))
   obtain rfl:=l3 (.inl (Nat.le_trans hgf f2))
   have e0:kEq (.p b o) (.p b' o')=bf (Nat.beq b b') (Nat.beq o o') false:=rfl
   have hiff:kEq (.p b o) (.p b' o')=true ↔ (⟨B,O + o,none⟩:Addr)=⟨B',O' + o',none⟩:=by
    rw [e0]
    constructor
    ·intro e
     obtain ⟨q1,q2⟩:=bf_ok e (by simp)
     obtain rfl:=beq_ok q1
     obtain rfl:=beq_ok q2
     rw [hm] at hm'; cases hm'; rfl
    ·intro e
     simp only [Addr.mk.injEq,and_true] at e
     obtain ⟨rfl,e2⟩:=e
     have:=s.inj' g1 g2 hm hm' (.inl (Nat.le_trans hgf f1))
     subst this
     rw [hm] at hm'; cases hm'
     have:o=o':=by omega
     subst this
     rw [show Nat.beq b b=true from Nat.beq_refl _]
     exact Nat.beq_refl _
   refine ⟨⟨fun e=>by rw [hiff.1 e],fun e=>hiff.2 (by simpa using e)⟩,fun d=>?_⟩
   have hs2:=szOf_run hsz w
   by_cases hq:(⟨B,O + o,none⟩:Addr)=⟨B',O' + o',none⟩
   ·rw [hiff.2 hq,hq]
    simp [Op.equalIn,run_underlying hu,hs2,run_sameAddr_same]
   ·have hf:kEq (.p b o) (.p b' o')=false:=by
     cases hx:kEq (.p b o) (.p b' o') with
     | false=>rfl
     | true=>exact absurd (hiff.1 hx) hq
    rw [hf]
    have:=run_sameAddr_other (P:=P) (w:=w) hq k2 l2
    simp [Op.equalIn,run_underlying hu,hs2,h0,this]
theorem mAl_ok {key:RV} {cs:CT} {sz:Nat} (h1:mAl fl h key cs sz=true):alive fl h key=true∧∀ i,i < sz→alive fl h (cg cs (1 + 2 * i))=true:=by
 obtain ⟨h2,h3⟩:=bf_ok (show bf (alive fl h key) (@Nat.rec (fun _=>Bool) true (fun i ih=>bf (alive fl h (cg cs (Nat.add 1 (Nat.mul 2 i)))) ih false) sz) false=true from h1) (by simp)
 refine ⟨h2,?_⟩
 clear h1 h2
 induction sz with
 | zero=>intro i hi; omega
 | succ k ih=>
  intro i hi
  obtain ⟨h4,h5⟩:=bf_ok (show bf (alive fl h (cg cs (Nat.add 1 (Nat.mul 2 k)))) (@Nat.rec (fun _=>Bool) true (fun i ih=>bf (alive fl h (cg cs (Nat.add 1 (Nat.mul 2 i)))) ih false) k) false=true from h3) (by simp)
  rcases Nat.lt_or_ge i k with q | q
  ·exact ih h5 i q
  ·have:i=k:=by omega
   subst this
   exact h4
theorem point_ok (s:Sim P ρ m g h w) (hgf:g≤fl) {kt el:TypeId} {sz:Nat} (hu:P.underlying kt=some (.pointer el)) (hsz:szOf P el=some sz) (h0:sz ≠ 0) {r:RV} {u:Value} {c:CT} {es:List MapEntry} (hk:kOz r=12) (ha:alive fl h r=true) (hd:den ρ m r u)
  (hes:∀ i e,es[i]?=some e→den ρ m (cg c (1 + 2 * i)) e.key) (hal:∀ i,i < es.length→alive fl h (cg c (1 + 2 * i))=true):∀ (n i:Nat) (x:Option Nat),i + n=es.length→mFind ys 12 c r n i=some x →
  (x=none∧(Instr.findAsking kt u (es.drop i) i).run P w=.ok none w) ∨ ∃ j e,x=some j∧es[j]?=some e∧e.key=u∧(Instr.findAsking kt u (es.drop i) i).run P w=.ok (some (j,e.val)) w
 | 0,i,x,hl,e=>by
  have h':some none=some x:=e
  cases h'
  rw [List.drop_eq_nil_of_le (by omega)]
  exact .inl ⟨rfl,rfl⟩
 | n + 1,i,x,hl,e=>by
  have hlt:i < es.length:=by omega
  have he:es[i]?=some es[i]:=List.getElem?_eq_getElem hlt
  have h':bf (Nat.beq (kOz (cg c (1 + 2 * i))) 12) (bf (kEz ys r (cg c (1 + 2 * i))) (some (some i)) (bf (kNz ys r (cg c (1 + 2 * i))) (mFind ys 12 c r n (i + 1)) none)) none=some x:=e
  rw [((ptr_z hk).2 _).1,((ptr_z hk).2 _).2,bf_eq,bf_eq,bf_eq] at h'
  split at h'
  ·rename_i h2
   have h2:=Nat.eq_of_beq_eq_true h2
   obtain ⟨hiff,hq⟩:=ptr_eq s hgf hu hsz h0 (ptr_z (ys:=ys) hk).1 (ptr_z (ys:=ys) h2).1 ha (hal i hlt) hd (hes i _ he)
   have heq:(Op.equal kt u es[i].key).run P w=.ok (kEq r (cg c (1 + 2 * i))) w:=hq 9999
   rw [List.drop_eq_getElem_cons hlt]
   split at h'
   ·rename_i h3
    cases h'
    exact .inr ⟨i,_,rfl,he,(hiff.1 h3).symm,by simp [Instr.findAsking,heq,h3]⟩
   ·rename_i h3
    split at h'
    case isFalse=>cases h'
    have h3:kEq r (cg c (1 + 2 * i))=false:=by simpa using h3
    rcases point_ok s hgf hu hsz h0 hk ha hd hes hal n (i + 1) x (by omega) h' with ⟨h4,h5⟩ | ⟨j,e,h4,h5,h6,h7⟩
    ·exact .inl ⟨h4,by simp [Instr.findAsking,heq,h3,h5]⟩
    ·exact .inr ⟨j,e,h4,h5,h6,by simp [Instr.findAsking,heq,h3,h7]⟩
  ·cases h'
theorem find_ok (hy:YsOk ρ ys) (s:Sim P ρ m g h w) (hgf:g≤fl) {kt:TypeId} {q:Nat} {r:RV} {u:Value} {c:CT} {es:List MapEntry} (hq:keyType P kt=some q) (hk:kOz r=q) (hd:den ρ m r u) (hal:mOk q fl h r c es.length=true)
  (hes:∀ i e,es[i]?=some e→den ρ m (cg c (1 + 2 * i)) e.key) (x:Option Nat) (e:mFind ys q c r es.length 0=some x) :
  (x=none∧(Instr.findKey kt u es).run P w=.ok none w) ∨ ∃ j e,x=some j∧es[j]?=some e∧e.key=u∧(Instr.findKey kt u es).run P w=.ok (some (j,e.val)) w:=by
 have asked:∀ d,P.underlying kt=some d→(∀ e,Instr.sameNow d u e=none) →
   ((x=none∧(Instr.findAsking kt u es 0).run P w=.ok none w) ∨ ∃ j e,x=some j∧es[j]?=some e∧e.key=u∧(Instr.findAsking kt u es 0).run P w=.ok (some (j,e.val)) w) →
   (x=none∧(Instr.findKey kt u es).run P w=.ok none w) ∨ ∃ j e,x=some j∧es[j]?=some e∧e.key=u∧(Instr.findKey kt u es).run P w=.ok (some (j,e.val)) w:=by
  intro d h1 hnow h4
  cases hes2:es with
  | nil=>
   subst hes2
   have h':some none=some x:=e
   cases h'
   exact .inl ⟨rfl,MapKept.run_findKey h1 rfl⟩
  | cons e0 l=>
   have hn:Instr.findNow d u es 0=none:=by
    rw [hes2]
    simp [Instr.findNow,hnow]
   have hrun:∀ a,(Instr.findAsking kt u es 0).run P w=.ok a w→(Instr.findKey kt u es).run P w=.ok a w:=fun a ha=>by
    simp [Instr.findKey,run_underlying h1,hn,ha]
   rw [← hes2]
   rcases h4 with ⟨h5,h6⟩ | ⟨j,e,h5,h6,h7,h8⟩
   ·exact .inl ⟨h5,hrun _ h6⟩
   ·exact .inr ⟨j,e,h5,h6,h7,hrun _ h8⟩
 rcases keyType_or hq with ⟨d,h1,h2⟩ | ⟨fs,ks,h1,h2,h3,rfl⟩ | ⟨el,sz,h1,h2,h3,rfl⟩
 ·rcases mFind_ok hy h2 hk hd hes es.length 0 x (by omega) e with ⟨h4,h5⟩ | ⟨j,e,h4,h5,h6,h7⟩
  ·rw [List.drop_zero] at h5
   exact .inl ⟨h4,MapKept.run_findKey h1 h5⟩
  ·rw [List.drop_zero] at h7
   exact .inr ⟨j,e,h4,h5,h6,MapKept.run_findKey h1 h7⟩
 ·have h4:=ask_ok hy h1 h3 h2 hk hd w hes es.length 0 x (by omega) e
  rw [List.drop_zero] at h4
  exact asked _ h1 (fun e=>by simp [Instr.sameNow]) h4
 ·have hal:mAl fl h r c es.length=true:=hal
  obtain ⟨a1,a2⟩:=mAl_ok hal
  have h4:=point_ok s hgf h1 h2 h3 hk a1 hd hes a2 es.length 0 x (by omega) e
  rw [List.drop_zero] at h4
  exact asked _ h1 (fun e=>by simp [Instr.sameNow]) h4
end Go.Rn
namespace Go.Rn
variable {ρ:Nat→Int} {m m':Mp} {P:Program}
variable {g fl n n' nt lim:Nat} {h h':HT} {t:FT} {a:Act} {o:Oper} {w:World} {v:RV} {ys:Ys} {cl:Cl'}
theorem Sim.newMap (s:Sim P ρ m g h w) (hn:m n=none) {c:CT} {ob:Obj} {Z0:Nat} (hk:Spec P ρ (upd m n (w.heap.size,0,Z0)) c (0,Z0) ob) :
  Sim P ρ (upd m n (w.heap.size,0,Z0)) g (hst h (.bk c MAPZ) n) (w.alloc ob):=by
 have hle:Le m (upd m n (w.heap.size,0,Z0)):=upd_le hn
 have hold:∀ b c z,b ≠ n→hg (hst h (.bk c z) n) b=hg h b:=fun b c z hb=>by
  rcases hg_hst h (.bk c z) n b with ⟨h1,_⟩ | ⟨_,h1⟩
  ·exact absurd h1 hb
  ·exact h1
 refine ⟨fun b c' z' hb=>?_,fun b b' c1 z1 c2 z2 B O Z O' Z' h1 h2 h3 h4=>?_⟩
 ·by_cases e:b=n
  ·subst e
   rcases hg_hst h (.bk c MAPZ) b b with ⟨_,h1 | h1⟩ | ⟨h1,_⟩
   ·rw [hb] at h1
    cases h1
    exact ⟨_,_,_,upd_self _ _,.inr ⟨rfl,ob,heap_alloc_new _ _,hk⟩⟩
   ·rw [hb] at h1; cases h1
   ·exact absurd rfl h1
  ·rw [hold b c MAPZ e] at hb
   obtain ⟨B,O,Z,h1,h2⟩:=s.cell b c' z' hb
   exact ⟨B,O,Z,hle _ _ h1,h2.move (RowKit.Below.heap_alloc _ _ _ h2.lt) hle⟩
 ·have key:∀ b c1 z1 B O Z,b ≠ n→hg (hst h (.bk c MAPZ) n) b=.bk c1 z1→upd m n (w.heap.size,0,Z0) b=some (B,O,Z)→hg h b=.bk c1 z1∧m b=some (B,O,Z)∧B < w.heap.size:=fun b c1 z1 B O Z e h1 h3=>by
   rw [hold b c MAPZ e] at h1
   have h5:m b=some (B,O,Z):=by
    unfold upd at h3; rwa [if_neg e] at h3
   exact ⟨h1,h5,s.lt h1 h5⟩
  by_cases e:b=n
  ·by_cases e':b'=n
   ·exact .inl (by omega)
   ·obtain ⟨_,_,h5⟩:=key b' c2 z2 B O' Z' e' h2 h4
    subst e
    rw [upd_self] at h3
    cases h3
    omega
  ·by_cases e':b'=n
   ·obtain ⟨_,_,h5⟩:=key b c1 z1 B O Z e h1 h3
    subst e'
    rw [upd_self] at h4
    cases h4
    omega
   ·obtain ⟨g1,g2,_⟩:=key b c1 z1 B O Z e h1 h3
    obtain ⟨g3,g4,_⟩:=key b' c2 z2 B O' Z' e' h2 h4
    exact s.inj b b' c1 z1 c2 z2 B O Z O' Z' g1 g3 g2 g4
theorem Tr.newMap (s:Sim P ρ m g h w) (hn:m n=none) {c:CT} {ob:Obj} {Z0:Nat} (hk:Spec P ρ (upd m n (w.heap.size,0,Z0)) c (0,Z0) ob) :
  Tr P ρ g fl h n m w (hst h (.bk c MAPZ) n) (n + 1) (upd m n (w.heap.size,0,Z0)) (w.alloc ob):=by
 refine ⟨s.newMap hn hk,upd_ext _ _,⟨rfl,rfl,rfl,by simp,fun k hk _=>RowKit.Below.heap_alloc _ _ _ hk,fun k r h=>⟨r,(RowKit.Below.heap_alloc _ _ _ (Array.getElem?_eq_some_iff.1 h).1).trans h⟩⟩,fun b c' z' B O Z h1 h2 h3=>?_⟩
 by_cases e:b=n
 ·subst e
  rw [upd_self] at h3
  cases h3
  exact .inl (Nat.le_refl _)
 ·unfold upd at h3
  rw [if_neg e] at h3
  rcases hg_hst h (.bk c MAPZ) n b with ⟨h4,_⟩ | ⟨_,h4⟩
  ·exact absurd h4 e
  ·rw [h4] at h2
   exact .inr ⟨b,c',z',O,Z,h1,h2,h3⟩
theorem Tr.setMap {b B O Z:Nat} {c c':CT} {ob ob':Obj} (s:Sim P ρ m g h w) (hb:hg h b=.bk c MAPZ) (gb:g≤b) (fb:fl≤b) (hm:m b=some (B,O,Z)) (hh:w.heap[B]?=some ob) (hK:Spec P ρ m c' (O,Z) ob') (hl:∀ r,ob=.loop r→∃ r',ob'=.loop r') :
  Tr P ρ g fl h n m w (hst h (.bk c' MAPZ) b) n m { w with heap:=w.heap.setIfInBounds B ob' }:=by
 have hset:=MapKept.heap_set (o':=ob') hh
 have hold:∀ b',b' ≠ b→hg (hst h (.bk c' MAPZ) b) b'=hg h b':=fun b' hb'=>by
  rcases hg_hst h (.bk c' MAPZ) b b' with ⟨h1,_⟩ | ⟨_,h1⟩
  ·exact absurd h1 hb'
  ·exact h1
 refine ⟨⟨fun b' c1 z1 e=>?_,fun b1 b2 c1 z1 c2 z2 B1 O1 Z1 O2 Z2 e1 e2 e3 e4=>?_⟩,Ext.refl _ _ _,⟨rfl,rfl,rfl,by simp,fun k _ hn=>hset.2 k (fun eB=>hn b c MAPZ O Z fb hb (by rw [eB]; exact hm)),fun k r h=>(by
  by_cases e:k=B
  ·subst e
   obtain ⟨r',hr'⟩:=hl r (Option.some.inj (hh.symm.trans h))
   exact ⟨r',by rw [hset.1,hr']⟩
  ·exact ⟨r,(hset.2 k e).trans h⟩)⟩,fun b' c1 z1 B1 O1 Z1 e1 e2 e3=>?_⟩
 ·by_cases eb:b'=b
  ·subst eb
   rcases hg_hst h (.bk c' MAPZ) b' b' with ⟨_,h1 | h1⟩ | ⟨h1,_⟩
   ·rw [e] at h1; cases h1
    exact ⟨B,O,Z,hm,.inr ⟨rfl,ob',hset.1,hK⟩⟩
   ·rw [e] at h1; cases h1
   ·exact absurd rfl h1
  ·rw [hold b' eb] at e
   obtain ⟨B',O',Z',q1,q2⟩:=s.cell b' c1 z1 e
   exact ⟨B',O',Z',q1,q2.move (hset.2 B' (fun eB=>by
    subst eB
    exact eb (s.inj' e hb q1 hm (.inr gb)))) (Le.refl _)⟩
 ·have key:∀ b1 c1 z1,hg (hst h (.bk c' MAPZ) b) b1=.bk c1 z1→∃ c2 z2,hg h b1=.bk c2 z2:=fun b1 c1 z1 e=>by
   by_cases eb:b1=b
   ·exact ⟨c,MAPZ,by rw [eb]; exact hb⟩
   ·rw [hold b1 eb] at e; exact ⟨_,_,e⟩
  obtain ⟨c3,z3,q1⟩:=key b1 c1 z1 e1
  obtain ⟨c4,z4,q2⟩:=key b2 c2 z2 e2
  exact s.inj b1 b2 c3 z3 c4 z4 B1 O1 Z1 O2 Z2 q1 q2 e3 e4
 ·by_cases eb:b'=b
  ·subst eb; exact .inr ⟨b',c,MAPZ,O1,Z1,e1,hb,e3⟩
  ·rw [hold b' eb] at e2; exact .inr ⟨b',c1,z1,O1,Z1,e1,e2,e3⟩
theorem Sim.spec {b:Nat} {c:CT} (s:Sim P ρ m g h w) (hb:hg h b=.bk c MAPZ):∃ B O Z o,m b=some (B,O,Z)∧w.heap[B]?=some o∧Spec P ρ m c (O,Z) o:=by
 obtain ⟨B,O,Z,h1,h2⟩:=s.cell b c MAPZ hb
 rcases h2 with ⟨h2,_⟩ | ⟨_,o,h2,h3⟩
 ·exact absurd rfl h2
 ·exact ⟨B,O,Z,o,h1,h2,h3⟩
theorem Sim.map {b:Nat} {c:CT} {q:Nat} (s:Sim P ρ m g h w) (hb:hg h b=.bk c MAPZ) (hsz:mSize c=some q):∃ B O Z es ck,m b=some (B,O,Z)∧w.heap[B]?=some (.map es ck)∧MapK ρ m c es:=by
 obtain ⟨B,O,Z,o,h1,h2,h3⟩:=s.spec hb
 cases o with
 | map es ck=>exact ⟨B,O,Z,es,ck,h1,h2,h3⟩
 | loop rec=>
  obtain ⟨key,st,_,_,_,_,_,_,_,h4,_⟩:=h3
  unfold mSize at hsz
  rw [h4] at hsz
  cases hsz
 | cells C el fr=>
  obtain ⟨_,_,l,h4,_⟩:=h3
  unfold mSize at hsz
  rw [h4] at hsz
  cases hsz
 | _=>exact h3.elim
theorem Sim.loop {b k:Nat} {c:CT} {st:RV} (s:Sim P ρ m g h w) (hb:hg h b=.bk c MAPZ) (hc:cg c 0=.fn k st):∃ B O Z rec,m b=some (B,O,Z)∧w.heap[B]?=some (.loop rec)∧LoopK P ρ m c rec:=by
 obtain ⟨B,O,Z,o,h1,h2,h3⟩:=s.spec hb
 cases o with
 | map es ck=>
  have h4:cg c 0=.i .i64 (.ofNat es.size):=h3.1
  rw [hc] at h4
  cases h4
 | loop rec=>exact ⟨B,O,Z,rec,h1,h2,h3⟩
 | cells C el fr=>
  obtain ⟨_,_,l,h4,_⟩:=h3
  rw [hc] at h4
  cases h4
 | _=>exact h3.elim
theorem mSize_ok {c:CT} {es:Array MapEntry} {q:Nat} (hK:MapK ρ m c es) (e:mSize c=some q):q=es.size:=by
 unfold mSize at e
 rw [hK.1] at e
 have e':some es.size=some q:=e
 cases e'; rfl
theorem ok_mk (s:Sim P ρ m g h w) (hf:fl≤n) {ty kt el:TypeId} {r:Option Operand} (ho:o.op=.makeMap ty r) (ht:P.underlying ty=some (.map kt el)) (hr:r.all keySize=true)
  (e:step .mk ys cl fl lim t h n=.ok v h' n'):Ok1 P ρ g fl o a m w h n v h' n':=by
 have e1:fT (cst ce (.i .i64 (.ofNat 0)) 0) (fun cs=>fT (hst h (.bk cs MAPZ) n) fun h=>SR.ok (.mp n) h (Nat.succ n))=.ok v h' n':=e
 rw [fT_eq,fT_eq] at e1
 cases e1
 refine ⟨Ab.new _ hf,fun hfr K Q hK=>?_⟩
 have hn:m n=none:=hfr n (Nat.le_refl _) (Nat.lt_succ_self _)
 have hMK:MapK ρ (upd m n (w.heap.size,0,0)) (cst ce (.i .i64 (.ofNat 0)) 0) #[]:=⟨cg_cst_in _ _ 0 (by decide),fun i e he=>by simp at he⟩
 refine op_value (w':=w.alloc (.map #[] 0)) (u:=.map (some w.heap.size)) ?_ (hK _ _ _ (Tr.newMap (ob:=.map #[] 0) s hn hMK) ⟨w.heap.size,0,0,upd_self _ _,rfl⟩)
 cases r with
 | none=>simp [execOp,ho,Instr.makeMap,newObj]; rfl
 | some x=>
  cases x with
  | const c=>cases c <;> first | cases hr; done | (simp [execOp,ho,Instr.makeMap,run_underlying ht,newObj,asInt]; rfl)
  | _=>cases hr
theorem ok_ml (hy:YsOk ρ ys) (F:Fr P ρ m nt t a.tmps) (s:Sim P ρ m g h w) (hgf:g≤fl) {ty kt el:TypeId} {mo ko:Operand} {two:Bool} {z:Value} {q:Nat} (ho:o.op=.lookup ty mo ko two) (ht:P.underlying ty=some (.map kt el)) (hz:zeroOf P el=some z) (hq:keyType P kt=some q)
  (e:step (.ml q (quote z) two (opd P nt mo) (opd P nt ko)) ys cl fl lim t h n=.ok v h' n'):Ok1 P ρ g fl o a m w h n v h' n':=by
 have e1:gM (SR.bad [140]) (ev t (opd P nt mo)) (fun b=>bf (Nat.ble (Nat.succ b) lim) (gMK (.bad [141]) (hg h b) fun cs=>gO (.bad [142]) (mSize cs) fun s=>
  bf (bf (mOk q fl h (ev t (opd P nt ko)) cs s) (Nat.beq (kOz (ev t (opd P nt ko))) q) false) (gO (.bad [144]) (mFind ys q cs (ev t (opd P nt ko)) s 0) fun x=>mRes two (quote z) cs h n x) (.bad [143])) (.bad [145]))=.ok v h' n':=e
 obtain ⟨b,hb,e2⟩:=gM_ok e1 (by simp)
 rcases bf_or e2 with ⟨_,e3⟩ | ⟨_,e3⟩
 case inr=>cases e3
 obtain ⟨c,hc,e4⟩:=gMK_ok e3 (by simp)
 obtain ⟨sz,hsz,e5⟩:=gO_ok e4 (by simp)
 rcases bf_or e5 with ⟨hkb,e6⟩ | ⟨_,e6⟩
 case inr=>cases e6
 obtain ⟨hal,hk0⟩:=bf_ok hkb (by simp)
 have hkk:=Nat.eq_of_beq_eq_true hk0
 clear hk0 hkb
 obtain ⟨x,hx,e7⟩:=gO_ok e6 (by simp)
 have dm:=opd_ok F mo (fun q=>by rw [q] at hb; cases hb)
 rw [hb] at dm
 obtain ⟨B,O,Z,hm,hmv⟩:=dm
 have dk:=opd_ok F ko (kOz_un hq hkk)
 obtain ⟨B',O',Z',es,ck,hm',hh,hK⟩:=s.map hc hsz
 rw [hm] at hm'
 cases hm'
 have hs:=mSize_ok hK hsz
 have hck:=fun b=>check_ok hq hkk dk b w
 subst hs
 have hfind:=find_ok hy (es:=es.toList) (c:=c) s hgf hq hkk dk (by simpa using hal) (fun i e he=>(hK.2 i e (by simpa using he)).1) x (by simpa using hx)
 unfold mRes at e7
 obtain ⟨hu,e8⟩:=nU_ok e7 (by simp)
 rcases hfind with ⟨rfl,hf⟩ | ⟨j,en,rfl,hj,_,hf⟩
 ·have hzd:den ρ m (quote z) z:=quote_ok hu
  have hrun:(Instr.lookup ty (a.eval mo) (a.eval ko) two).run P w=.ok (if two then .tuple #[z,.bool false] else z) w:=by
   simp [Instr.lookup,run_underlying ht,hmv,MapKept.run_getObj_map hh,hck,hf,zeroOf_run hz]
  have hex:(execOp a.eval o).run P w=.ok (.value (if two then .tuple #[z,.bool false] else z)) w:=by
   simp [execOp,ho,hrun]
  cases two with
  | true=>
   cases e8
   exact Ok1.quiet s hex ⟨[z,.bool false],denC_cons.2 ⟨_,_,rfl,hzd,denC_cons.2 ⟨_,_,rfl,rfl,denC_nil.2 rfl⟩⟩,rfl⟩
  | false=>
   cases e8
   exact Ok1.quiet s hex hzd
 ·have hj':es[j]?=some en:=by simpa using hj
  obtain ⟨_,hv,_,hvu⟩:=hK.2 j en hj'
  have hrun:(Instr.lookup ty (a.eval mo) (a.eval ko) two).run P w=.ok (if two then .tuple #[en.val,.bool true] else en.val) w:=by
   simp [Instr.lookup,run_underlying ht,hmv,MapKept.run_getObj_map hh,hck,hf]
  have hex:(execOp a.eval o).run P w=.ok (.value (if two then .tuple #[en.val,.bool true] else en.val)) w:=by
   simp [execOp,ho,hrun]
  cases two with
  | true=>
   cases e8
   exact Ok1.quiet s hex ⟨[en.val,.bool true],denC_cons.2 ⟨_,_,rfl,hv,denC_cons.2 ⟨_,_,rfl,rfl,denC_nil.2 rfl⟩⟩,rfl⟩
  | false=>
   cases e8
   exact Ok1.quiet s hex hv
theorem ok_mi (hy:YsOk ρ ys) (F:Fr P ρ m nt t a.tmps) (s:Sim P ρ m g h w) (hgf:g≤fl) {ty kt el:TypeId} {mo ko xo:Operand} {q:Nat} (ho:o.op=.insert ty mo ko xo ∨ o.op=.mapUpdate ty mo ko xo) (ht:P.underlying ty=some (.map kt el)) (hq:keyType P kt=some q)
  (e:step (.mi q (opd P nt mo) (opd P nt ko) (opd P nt xo)) ys cl fl lim t h n=.ok v h' n'):Ok1 P ρ g fl o a m w h n v h' n':=by
 have e1:gM (SR.bad [130]) (ev t (opd P nt mo)) (fun b=>bf (Nat.ble fl b) (gMK (.bad [131]) (hg h b) fun cs=>gO (.bad [132]) (mSize cs) fun s=>bf (Nat.ble s 65536)
  (bf (bf (mOk q fl h (ev t (opd P nt ko)) cs s) (Nat.beq (kOz (ev t (opd P nt ko))) q) false) (gO (.bad [134]) (mFind ys q cs (ev t (opd P nt ko)) s 0) fun x=>nU (.bad [135]) (ev t (opd P nt xo)) fun v=>nU (.bad [136]) (ev t (opd P nt ko)) fun key=>fT (mSet cs key v s x) fun cs=>fT (hst h (.bk cs MAPZ) b) fun h=>.ok .ud h n) (.bad [133])) (.bad [137])) (.bad [138]))=.ok v h' n':=e
 obtain ⟨b,hb,e2⟩:=gM_ok e1 (by simp)
 rcases bf_or e2 with ⟨hfb,e3⟩ | ⟨_,e3⟩
 case inr=>cases e3
 have hfb:=Nat.le_of_ble_eq_true hfb
 obtain ⟨c,hc,e4⟩:=gMK_ok e3 (by simp)
 obtain ⟨sz,hsz,e5⟩:=gO_ok e4 (by simp)
 rcases bf_or e5 with ⟨hsm,e5⟩ | ⟨_,e5⟩
 case inr=>cases e5
 have hsm:=Nat.le_of_ble_eq_true hsm
 rcases bf_or e5 with ⟨hkb,e6⟩ | ⟨_,e6⟩
 case inr=>cases e6
 obtain ⟨hal,hk0⟩:=bf_ok hkb (by simp)
 have hkk:=Nat.eq_of_beq_eq_true hk0
 clear hk0 hkb
 obtain ⟨x,hx,e7⟩:=gO_ok e6 (by simp)
 obtain ⟨hxu,e7⟩:=nU_ok e7 (by simp)
 obtain ⟨hku,e7⟩:=nU_ok e7 (by simp)
 rw [fT_eq,fT_eq] at e7
 cases e7
 have dm:=opd_ok F mo (fun q=>by rw [q] at hb; cases hb)
 rw [hb] at dm
 obtain ⟨B,O,Z,hm,hmv⟩:=dm
 have dk:=opd_ok F ko (kOz_un hq hkk)
 have dx:=opd_ok F xo hxu
 obtain ⟨B',O',Z',es,ck,hm',hh,hK⟩:=s.map hc hsz
 rw [hm] at hm'
 cases hm'
 have hs:=mSize_ok hK hsz
 subst hs
 have hck:=fun b=>check_ok hq hkk dk b w
 have hst:=stay_ok hq hkk dk w
 have hfind:=find_ok hy (es:=es.toList) (c:=c) s hgf hq hkk dk (by simpa using hal) (fun i e he=>(hK.2 i e (by simpa using he)).1) x (by simpa using hx)
 refine ⟨Ab.set _ hfb (fun _ _ _=>⟨_,_,hc⟩),fun _ K Q hKK=>?_⟩
 rcases hfind with ⟨rfl,hf⟩ | ⟨j,en,rfl,hj,hje,hf⟩
 ·have hK':MapK ρ m (mSet c (ev t (opd P nt ko)) (ev t (opd P nt xo)) es.size none) (es.push { key:=a.eval ko,val:=a.eval xo,born:=ck }):=by
   have e0:mSet c (ev t (opd P nt ko)) (ev t (opd P nt xo)) es.size none=cst (cst (cst c (ev t (opd P nt ko)) (1 + 2 * es.size)) (ev t (opd P nt xo)) (2 + 2 * es.size)) (.i .i64 (.ofNat (es.size + 1))) 0:=by
    show fT _ _=_
    rw [fT_eq,fT_eq]; rfl
   rw [e0]
   refine ⟨by rw [cg_cst_in _ _ _ (by decide)]; simp,fun i e he=>?_⟩
   rw [Array.getElem?_push] at he
   rw [cg_cst_ne _ _ (by omega),cg_cst_ne _ _ (show 2 + 2 * i ≠ 0 by omega)]
   split at he
   ·rename_i hi
    subst hi
    cases he
    rw [cg_cst_ne _ _ (by omega),cg_cst_in _ _ _ (by omega),cg_cst_in _ _ _ (by omega)]
    exact ⟨dk,dx,hku,hxu⟩
   ·rename_i hi
    rw [cg_cst_ne _ _ (by omega),cg_cst_ne _ _ (by omega),cg_cst_ne _ _ (by omega),cg_cst_ne _ _ (by omega)]
    exact hK.2 i e he
  have hT:=Tr.setMap (n:=n) (ob':=.map _ (ck + 1)) s hc (Nat.le_trans hgf hfb) hfb hm hh hK' (fun _ h=>by cases h)
  refine op_skip ?_ (hKK _ _ _ hT rfl)
  have hrun:(Instr.mapUpdate ty (a.eval mo) (a.eval ko) (a.eval xo)).run P w=.ok () { w with heap:=w.heap.setIfInBounds B (.map (es.push { key:=a.eval ko,val:=a.eval xo,born:=ck }) (ck + 1)) }:=by
   simp [Instr.mapUpdate,run_underlying ht,hmv,MapKept.run_getObj_map hh,hck,hf,MapKept.run_setObj_map _ hh,Result.andThen]
  rcases ho with ho | ho <;> simp [execOp,ho,hrun]
 ·have hj':es[j]?=some en:=by simpa using hj
  have hjl:j < es.size:=(Array.getElem?_eq_some_iff.1 hj').1
  have hK':MapK ρ m (mSet c (ev t (opd P nt ko)) (ev t (opd P nt xo)) es.size (some j)) (es.modify j fun e=>{ e with key:=a.eval ko,val:=a.eval xo }):=by
   have e0:mSet c (ev t (opd P nt ko)) (ev t (opd P nt xo)) es.size (some j)=cst c (ev t (opd P nt xo)) (2 + 2 * j):=rfl
   rw [e0]
   refine ⟨by rw [cg_cst_ne _ _ (by omega),hK.1]; simp,fun i e he=>?_⟩
   rw [cg_cst_ne _ _ (show 1 + 2 * i ≠ 2 + 2 * j by omega)]
   rw [Array.getElem?_modify] at he
   split at he
   ·rename_i hi
    subst hi
    rw [hj'] at he
    cases he
    obtain ⟨k1,k2,k3,k4⟩:=hK.2 j en hj'
    rw [cg_cst_in _ _ _ (by omega)]
    exact ⟨hje ▸ k1,dx,k3,hxu⟩
   ·rename_i hi
    rw [cg_cst_ne _ _ (by omega)]
    exact hK.2 i e he
  have hT:=Tr.setMap (n:=n) (ob':=.map _ ck) s hc (Nat.le_trans hgf hfb) hfb hm hh hK' (fun _ h=>by cases h)
  refine op_skip ?_ (hKK _ _ _ hT rfl)
  have hrun:(Instr.mapUpdate ty (a.eval mo) (a.eval ko) (a.eval xo)).run P w=.ok () { w with heap:=w.heap.setIfInBounds B (.map (es.modify j fun e=>{ e with key:=a.eval ko,val:=a.eval xo }) ck) }:=by
   simp [Instr.mapUpdate,run_underlying ht,hmv,MapKept.run_getObj_map hh,hck,hf,hj',hje,hst,MapKept.run_setObj_map _ hh,Result.andThen]
  rcases ho with ho | ho <;> simp [execOp,ho,hrun]
theorem ok_pq (F:Fr P ρ m nt t a.tmps) (s:Sim P ρ m g h w) (hgf:g≤fl) {op:BinOp} {neg:Bool} (hop:(op=.eql∧neg=false) ∨ (op=.neq∧neg=true)) {ty yt el:TypeId} {x y:Operand} {sz:Nat} (ho:o.op=.binOp op ty x y yt) (hu:P.underlying ty=some (.pointer el)) (hsz:szOf P el=some sz) (h0:sz ≠ 0)
  (e:step (.pq neg (opd P nt x) (opd P nt y)) ys cl fl lim t h n=.ok v h' n'):Ok1 P ρ g fl o a m w h n v h' n':=by
 have e1:bf (bf (Nat.beq (kOf (ev t (opd P nt x))) 12) (bf (Nat.beq (kOf (ev t (opd P nt y))) 12) (bf (alive fl h (ev t (opd P nt x))) (alive fl h (ev t (opd P nt y))) false) false) false)
  (SR.ok (mkB (eqB neg (notB (kEq (ev t (opd P nt x)) (ev t (opd P nt y)))))) h n) (.bad [197])=.ok v h' n':=e
 obtain ⟨e2,e3⟩:=bf_ok e1 (by simp)
 cases e3
 obtain ⟨k1,e4⟩:=bf_ok e2 (by simp)
 obtain ⟨k2,e5⟩:=bf_ok e4 (by simp)
 obtain ⟨a1,a2⟩:=bf_ok e5 (by simp)
 have k1:=Nat.eq_of_beq_eq_true k1
 have k2:=Nat.eq_of_beq_eq_true k2
 have un:∀ r:RV,kOf r=12→r ≠ .un:=fun r hr q=>by rw [q] at hr; cases hr
 have dx:=opd_ok F x (un _ k1)
 have dy:=opd_ok F y (un _ k2)
 obtain ⟨_,hq⟩:=ptr_eq s hgf hu hsz h0 k1 k2 a1 a2 dx dy
 have heq:(Op.equal ty (a.eval x) (a.eval y)).run P w=.ok (kEq (ev t (opd P nt x)) (ev t (opd P nt y))) w:=hq 9999
 generalize kEq (ev t (opd P nt x)) (ev t (opd P nt y))=b at *
 obtain ⟨A,hA⟩:=ptr_den k1 dx
 obtain ⟨A',hA'⟩:=ptr_den k2 dy
 rw [hA,hA'] at heq
 have gu:∀ op:BinOp,(eqGuard op ty x y (.pointer A) (.pointer A')).run P w=.ok () w:=fun op=>eqGuard_run (by simp) (fun _=>by simp) w
 have b1:(binOp .eql ty (.pointer A) (.pointer A')).run P w=.ok (.bool b) w:=by
  have:binOp .eql ty (.pointer A) (.pointer A')=(do pure (.bool (← Op.equal ty (.pointer A) (.pointer A'))):Sem Value):=rfl
  rw [this]; simp [heq]
 have b2:(binOp .neq ty (.pointer A) (.pointer A')).run P w=.ok (.bool (!b)) w:=by
  have:binOp .neq ty (.pointer A) (.pointer A')=(do pure (.bool (!(← Op.equal ty (.pointer A) (.pointer A')))):Sem Value):=rfl
  rw [this]; simp [heq]
 rw [mkB_eq,eqB_eq,notB_eq]
 rcases hop with ⟨rfl,rfl⟩ | ⟨rfl,rfl⟩
 ·exact Ok1.quiet (u:=.bool b) s (by simp [execOp,ho,hA,hA',gu,b1]) (by cases b <;> rfl)
 ·exact Ok1.quiet (u:=.bool (!b)) s (by simp [execOp,ho,hA,hA',gu,b2]) (by cases b <;> rfl)
end Go.Rn
/-
 Rows of bytes under way: laid by a conversion,made longer by append,read as a string.
-/
namespace Go.Rn
open Go Go.RowKit
variable {ρ:Nat→Int} {m m':Mp} {P:Program}
variable {g fl n n' nt lim:Nat} {h h':HT} {t:FT} {a:Act} {o:Oper} {w:World} {v:RV} {ys:Ys} {cl:Cl'}
theorem Tr.anewS {b B O Z B' Z':Nat} {w':World} {c c':CT} {ob':Obj} {C0:Array Value} {el0:TypeId} {fr0:Nat × Nat} (s:Sim P ρ m g h w) (hb:hg h b=.bk c MAPZ) (gb:g≤b) (fb:fl≤b) (hm:m b=some (B,O,Z))
  (hh0:w.heap[B]?=some (.cells C0 el0 fr0)) (hn:m n=none) (hh:w'.heap[B']?=some ob') (hB:B'=B ∨ w.heap.size≤B') (h1:w'.os=w.os) (h2:w'.tape=w.tape) (h3:w'.output=w.output) (h4:w.heap.size≤w'.heap.size)
  (h5:∀ k,k < w.heap.size→k ≠ B→w'.heap[k]?=w.heap[k]?) (hK:Spec P ρ (upd m n (B',0,Z')) c' (0,Z') ob') :
  Tr P ρ g fl h n m w (hst (hst h .no b) (.bk c' MAPZ) n) (n + 1) (upd m n (B',0,Z')) w':=by
 have hle:Le m (upd m n (B',0,Z')):=upd_le hn
 have hbn:b ≠ n:=fun e=>by rw [e,hn] at hm; cases hm
 have hold:∀ b' c1 z1,b' ≠ n→hg (hst (hst h .no b) (.bk c' MAPZ) n) b'=.bk c1 z1→b' ≠ b∧hg h b'=.bk c1 z1:=fun b' c1 z1 e1 e2=>by
  rcases hg_hst (hst h .no b) (.bk c' MAPZ) n b' with ⟨h1,_⟩ | ⟨_,h1⟩
  ·exact absurd h1 e1
  ·rw [h1] at e2
   rcases hg_hst h .no b b' with ⟨h2,h3 | h3⟩ | ⟨h2,h3⟩
   ·rw [h3] at e2; cases e2
   ·rw [h3] at e2; cases e2
   ·rw [h3] at e2; exact ⟨h2,e2⟩
 have hself:∀ c1 z1,hg (hst (hst h .no b) (.bk c' MAPZ) n) n=.bk c1 z1→c1=c'∧z1=MAPZ:=fun c1 z1 e=>by
  rcases hg_hst (hst h .no b) (.bk c' MAPZ) n n with ⟨_,h1 | h1⟩ | ⟨h1,_⟩
  ·rw [e] at h1; cases h1; exact ⟨rfl,rfl⟩
  ·rw [e] at h1; cases h1
  ·exact absurd rfl h1
 have hup:∀ b',b' ≠ n→upd m n (B',0,Z') b'=m b':=fun b' e=>by unfold upd; rw [if_neg e]
 have apart:∀ b2 c2 z2 O2 Z2,b2 ≠ b→hg h b2=.bk c2 z2→m b2=some (B',O2,Z2)→False:=fun b2 c2 z2 O2 Z2 e5 e6 e4=>by
  rcases hB with rfl | hB
  ·exact e5 (s.inj' e6 hb e4 hm (.inr gb))
  ·have:=s.lt e6 e4
   omega
 refine ⟨⟨fun b' c1 z1 e=>?_,fun b1 b2 c1 z1 c2 z2 B1 O1 Z1 O2 Z2 e1 e2 e3 e4=>?_⟩,upd_ext _ _,⟨h1,h2,h3,h4,fun k hk hn=>h5 k hk fun e=>hn b c MAPZ O Z fb hb (by rw [e]; exact hm),fun k r hr=>⟨r,(h5 k (Array.getElem?_eq_some_iff.1 hr).1 fun e=>?_).trans hr⟩⟩,fun b' c1 z1 B1 O1 Z1 e1 e2 e3=>?_⟩
 ·by_cases eb:b'=n
  ·subst eb
   obtain ⟨rfl,rfl⟩:=hself _ _ e
   exact ⟨B',0,Z',upd_self _ _,.inr ⟨rfl,ob',hh,hK⟩⟩
  ·obtain ⟨e5,e6⟩:=hold b' c1 z1 eb e
   obtain ⟨B2,O2,Z2,q1,q2⟩:=s.cell b' c1 z1 e6
   exact ⟨B2,O2,Z2,hle _ _ q1,q2.move (h5 B2 (s.lt e6 q1) (fun eB=>by
    subst eB
    exact e5 (s.inj' e6 hb q1 hm (.inr gb)))) hle⟩
 ·by_cases x1:b1=n
  ·by_cases x2:b2=n
   ·exact .inl (by omega)
   ·obtain ⟨e5,e6⟩:=hold b2 c2 z2 x2 e2
    rw [hup b2 x2] at e4
    subst x1
    rw [upd_self] at e3
    cases e3
    exact (apart _ _ _ _ _ e5 e6 e4).elim
  ·obtain ⟨e5,e6⟩:=hold b1 c1 z1 x1 e1
   rw [hup b1 x1] at e3
   by_cases x2:b2=n
   ·subst x2
    rw [upd_self] at e4
    cases e4
    exact (apart _ _ _ _ _ e5 e6 e3).elim
   ·obtain ⟨e7,e8⟩:=hold b2 c2 z2 x2 e2
    rw [hup b2 x2] at e4
    exact s.inj b1 b2 c1 z1 c2 z2 B1 O1 Z1 O2 Z2 e6 e8 e3 e4
 ·rw [e,hh0] at hr; cases hr
 ·by_cases eb:b'=n
  ·subst eb
   rw [upd_self] at e3
   cases e3
   rcases hB with rfl | hB
   ·exact .inr ⟨b,c,MAPZ,O,Z,fb,hb,hm⟩
   ·exact .inl hB
  ·obtain ⟨_,e6⟩:=hold b' c1 z1 eb e2
   rw [hup b' eb] at e3
   exact .inr ⟨b',c1,z1,O1,Z1,e1,e6,e3⟩
section
variable {P:Program} {w:World}
def Thaw (n:Nat) (fr:Nat × Nat):Prop:=fr=(0,0) ∨ n≤fr.1
theorem Thaw.open_ {w:World} {B i:Nat} {C:Array Value} {el:TypeId} {fr:Nat × Nat} (h:Thaw C.size fr) (hh:w.heap[B]?=some (.cells C el fr)) (hi:i < C.size):w.frozen? ⟨B,i,none⟩=false:=by
 obtain ⟨lo,hi'⟩:=fr
 unfold World.frozen?
 simp only [hh]
 rcases h with h | h
 ·cases h
  simp
 ·have:¬ lo≤i:=by
   have h2:C.size≤lo:=h
   omega
  simp [this]
theorem setCells_lay (B:Nat) (el:TypeId) (fr:Nat × Nat):∀ (ys:List Value) (i:Nat) (C:Array Value) (w:World),w.heap[B]?=some (.cells C el fr)→i + ys.length≤C.size→w.setCells B i ys=w.setRow B (laid C i ys)
 | [],i,C,w,hh,_=>by
  have e:laid C i []=C:=by simp [laid]
  rw [e,setRow_self w B C el fr hh]
  rfl
 | v::ys,i,C,w,hh,hl=>by
  have hi:i < C.size:=by simp at hl; omega
  show (w.setCell ⟨B,i,none⟩ v).setCells B (i + 1) ys=_
  rw [setCell_eq_setRow w B i C el fr v hh]
  rw [setCells_lay B el fr ys (i + 1) (C.setIfInBounds i v) _ (setRow_heap w B C _ el fr hh) (by simp at hl ⊢; omega),setRow_setRow]
  congr 1
  have e:=list_seg_step C.toList i v ys (by simp at hl ⊢; omega)
  apply Array.toList_inj.1
  simpa [laid,Array.toList_setIfInBounds,Nat.add_assoc] using e
theorem run_lay_fz {B i:Nat} {C:Array Value} {el:TypeId} {fr:Nat × Nat} {ys:List Value} (hz:Thaw C.size fr) (hh:w.heap[B]?=some (.cells C el fr)) (hfit:i + ys.length≤C.size) (hc:∀ v ∈ ys,Cell v) :
  (storeCells ⟨B,i,none⟩ ys).run P w=.ok () (w.setRow B (laid C i ys)):=by
 have h:=run_storeCells_cells (P:=P) B i ys 0 w (fun j hj=>by simp [World.cell?,hh,show i + j < C.size by omega]) (fun j hj=>hz.open_ hh (by omega)) hc
 rw [Nat.add_zero,setCells_lay B el fr ys i C w hh hfit] at h
 exact h
theorem run_room_fz {ty tx rt e:TypeId} {i:TypeInfo} (ht:P.underlying ty=some (.slice e)) (hi:P.info? e=some i) {B off sLen sCap:Nat} {C:Array Value} {el:TypeId} {fr:Nat × Nat} (hz:Thaw C.size fr) (hh:w.heap[B]?=some (.cells C el fr))
  {x:Value} {q:Nat} {news:List Value} (hs:Src P i.size tx x q news w) (hroom:sLen + q≤sCap) (hfit:off + sLen * i.size + news.length≤C.size) :
  (Builtin.append_ #[ty,tx] rt #[.slice (some ⟨B,off,none⟩) sLen sCap,x]).run P w=.ok (.slice (some ⟨B,off,none⟩) (sLen + q) sCap) (w.setRow B (laid C (off + sLen * i.size) news)):=by
 have hst:=run_lay_fz (P:=P) hz hh hfit hs.one
 rcases hs.kind with ⟨e',hk⟩ | hk <;> simp [Builtin.append_,run_underlying ht,run_underlying hk,sizeOf,typeInfo,hi,hs.len,hroom,hs.cells,add_at,hst]
theorem run_bytes_fz (w:World) (src dst e:TypeId) (s:ByteArray) (hs:P.underlying src=some .string) (hd:P.underlying dst=some (.slice e)) (he:P.underlying e=some (.int .u8)) :
  ∃ (C:Array Value) (cap:Nat) (fr:Nat × Nat),(convert src dst (.string s)).run P w=.ok (.slice (some ⟨w.heap.size,0,none⟩) s.size cap) (w.drew.alloc (.cells C e fr))∧C.size=cap∧s.size≤cap∧Thaw C.size fr∧∀ j,j < s.size→C[j]?=(byteCells s)[j]?:=by
 have hle:s.size≤grownCap w s.size 0 e:=by unfold grownCap Question.cut; simp only; omega
 refine ⟨_,_,_,run_bytes_of_string w src dst e s hs hd he,?_,hle,.inr (Nat.le_refl _),fun j hj=>?_⟩
 ·have:s.data.size=s.size:=rfl
  simp [bytesRow,this]
  omega
 ·simp [bytesRow,byteCells,Array.getElem?_append]
  intro q
  omega
end
theorem strB_size (l:List Nat):(⟨(l.map UInt8.ofNat).toArray⟩:ByteArray).size=l.length:=by
 show (l.map UInt8.ofNat).toArray.size=_
 simp
theorem conv_tr (s:Sim P ρ m g h w) (hn:m n=none) {src dst e:TypeId} (hs:P.underlying src=some .string) (hd:P.underlying dst=some (.slice e)) (he:P.underlying e=some (.int .u8)) {l:List Nat} (hl:∀ x ∈ l,x < 256) {c:CT} (hc:cg c 0=.s l) :
  ∃ (u:Value) (w':World) (cap:Nat),(convert src dst (.string ⟨(l.map UInt8.ofNat).toArray⟩)).run P w=.ok u w'∧Tr P ρ g fl h n m w (hst h (.bk c MAPZ) n) (n + 1) (upd m n (w.heap.size,0,cap)) w'∧den ρ (upd m n (w.heap.size,0,cap)) (.su n 0 l.length 1) u:=by
 obtain ⟨C,cap,fr,h1,h2,h3,h4,h5⟩:=run_bytes_fz (P:=P) w src dst e ⟨(l.map UInt8.ofNat).toArray⟩ hs hd he
 rw [strB_size] at h1 h3 h5
 have hk:Spec P ρ (upd m n (w.heap.size,0,cap)) c (0,cap) (.cells C e fr):=⟨by rw [h2],h4,l,hc,hl,by omega,fun j x hj=>by
  have hj':j < l.length:=(List.getElem?_eq_some_iff.1 hj).1
  rw [h5 j hj',byteCells_map hl,List.getElem?_map,hj]
  rfl⟩
 have t1:Tr P ρ g fl h n m w h n m w.drew:=Tr.drew s
 have t2:=Tr.newMap (fl:=fl) t1.sim hn hk
 refine ⟨_,_,cap,h1,t1.trans t2 (Nat.le_refl _) (Nat.le_succ _),⟨w.heap.size,0,cap,cap,upd_self _ _,?_,?_,rfl⟩⟩
 ·omega
 ·omega
theorem app_tr (s:Sim P ρ m g h w) (hn:m n=none) {b:Nat} {c c':CT} (gb:g≤b) (fb:fl≤b) (hb:hg h b=.bk c MAPZ) {l r:List Nat} (hc:cg c 0=.s l) (hc':cg c' 0=.s (l ++ r)) {u:Value} (du:den ρ m (.su b 0 l.length 1) u)
  {ty tx rt e:TypeId} {i:TypeInfo} {z0:Value} (ht:P.underlying ty=some (.slice e)) (hk2:(∃ e',P.underlying tx=some (.slice e')) ∨ P.underlying tx=some .string) (hi:P.info? e=some i) (hz0:i.zero=some z0) (h1:i.size=1) (hzc:z0.cells.size=1) (hby:i.bytes≤65536)
  (hr:∀ x ∈ r,x < 256) (hm:l.length + r.length≤1048576) :
  ∃ (u':Value) (w':World) (B' Z':Nat),(Builtin.append_ #[ty,tx] rt #[u,.string ⟨(r.map UInt8.ofNat).toArray⟩]).run P w=.ok u' w'∧Tr P ρ g fl h n m w (hst (hst h .no b) (.bk c' MAPZ) n) (n + 1) (upd m n (B',0,Z')) w'∧den ρ (upd m n (B',0,Z')) (.su n 0 (l.length + r.length) 1) u':=by
 obtain ⟨B,O,Z,ob,hmb,hob,hS⟩:=s.spec hb
 obtain ⟨B2,O2,Z2,cap,hm2,d1,d2,rfl⟩:=du
 rw [hmb] at hm2
 cases hm2
 cases ob with
 | cells C el fr=>
  obtain ⟨k1,k2,l2,k3,k4,k5,k6⟩:=hS
  rw [hc] at k3
  cases k3
  cases k1
  have hcap:cap=C.size:=by omega
  have c1:=fun w'=>firstCells_string (P:=P) ⟨(r.map UInt8.ofNat).toArray⟩ w'
  rw [strB_size,byteCells_map hr] at c1
  have hs:Src P i.size tx (.string ⟨(r.map UInt8.ofNat).toArray⟩) r.length (r.map fun x=>Value.int .u8 (x:Nat)) w:=by
   rw [h1]
   refine ⟨hk2,fun w'=>?_,c1 w,c1 w.drew,by simp,fun x hx=>?_⟩
   ·show Result.ok (⟨(r.map UInt8.ofNat).toArray⟩:ByteArray).size w'=_
    rw [strB_size]
   ·obtain ⟨_,_,rfl⟩:=List.mem_map.1 hx; rfl
  have nl:(r.map fun x=>Value.int .u8 (x:Nat)).length=r.length:=by simp
  by_cases hrm:l.length + r.length≤cap
  ·have hfit:0 + l.length * i.size + (r.map fun x=>Value.int .u8 (x:Nat)).length≤C.size:=by rw [nl,h1]; omega
   have hrun:=run_room_fz (P:=P) (tx:=tx) (rt:=rt) ht hi k2 hob hs hrm hfit
   have e0:0 + l.length * i.size=l.length:=by rw [h1]; omega
   rw [e0] at hrun hfit
   have hK:Spec P ρ (upd m n (B,0,C.size)) c' (0,C.size) (.cells (laid C l.length (r.map fun x=>Value.int .u8 (x:Nat))) el fr):=by
    refine ⟨by rw [laid_size hfit],by rw [laid_size hfit]; exact k2,l ++ r,hc',fun x hx=>?_,by rw [laid_size hfit,List.length_append]; omega,fun j x hj=>?_⟩
    ·rcases List.mem_append.1 hx with q | q
     ·exact k4 x q
     ·exact hr x q
    ·by_cases hjl:j < l.length
     ·rw [List.getElem?_append_left hjl] at hj
      rw [laid_out hfit (.inl hjl)]
      exact k6 j x hj
     ·rw [List.getElem?_append_right (by omega)] at hj
      have:=laid_in hfit (j:=j - l.length) (v:=.int .u8 x) (by rw [List.getElem?_map,hj]; rfl)
      rwa [show l.length + (j - l.length)=j by omega] at this
   have T:=Tr.anewS (fl:=fl) s hb gb fb hmb hob hn (w':=w.setRow B (laid C l.length (r.map fun x=>Value.int .u8 (x:Nat)))) (B':=B) (setRow_heap w B C _ el fr hob) (.inl rfl) rfl rfl rfl (by simp) (fun k _ hk=>setRow_other w B k _ hk) hK
   refine ⟨_,_,B,C.size,hrun,T,⟨B,0,C.size,cap,upd_self _ _,?_,?_,rfl⟩⟩
   ·omega
   ·omega
  ·have hg:cap < l.length + r.length:=by omega
   have olen:(l.map fun x=>Value.int .u8 (x:Nat)).length=l.length:=by simp
   have hold:(Builtin.firstCells i.size l.length (.slice (some ⟨B,0 + 0,none⟩) l.length cap)).run P w.drew=.ok (l.map fun x=>Value.int .u8 (x:Nat)).toArray w.drew:=by
    rw [h1]
    refine run_firstCells_some w.drew 1 l.length _ l.length cap _ (by rw [olen,Nat.mul_one]) (fun j v hj=>?_)
    rw [add_at,World.cell?_drew]
    have hj2:(l[j]?).map (fun x=>Value.int .u8 (x:Nat))=some v:=by rw [← List.getElem?_map]; exact hj
    obtain ⟨x,hx,rfl⟩:=Option.map_eq_some_iff.1 hj2
    have:=k6 j x hx
    simp only [World.cell?,hob]
    simpa using this
   have hfit48:Builtin.nextslicecap (l.length + r.length) cap * i.bytes≤281474976710656:=by
    refine growslice_fits hg ?_
    have:(l.length + r.length) * i.bytes≤1048576 * 65536:=Nat.mul_le_mul hm hby
    omega
   have hrun:=run_append_grow_src w ty tx rt e i z0 ht hi hz0 (some ⟨B,0 + 0,none⟩) l.length cap _ hold _ r.length _ hs hg (by omega) hfit48
   have hge:=grown_ge w (l.length + r.length) cap e
   have e3:(Builtin.zeroCells z0.cells (grownCap w (l.length + r.length) cap e - (l.length + r.length))).size=grownCap w (l.length + r.length) cap e - (l.length + r.length):=by simp [Builtin.zeroCells,hzc]
   generalize Builtin.zeroCells z0.cells (grownCap w (l.length + r.length) cap e - (l.length + r.length))=ZS at hrun e3
   generalize grownCap w (l.length + r.length) cap e=cp at hrun e3 hge
   have hsz:(((l.map fun x=>Value.int .u8 (x:Nat)) ++ (r.map fun x=>Value.int .u8 (x:Nat))).toArray ++ ZS).size=cp:=by
    rw [Array.size_append,List.size_toArray,List.length_append,olen,nl,e3]
    omega
   have hK:Spec P ρ (upd m n (w.heap.size,0,cp)) c' (0,cp) (.cells (((l.map fun x=>Value.int .u8 (x:Nat)) ++ (r.map fun x=>Value.int .u8 (x:Nat))).toArray ++ ZS) e (0,0)):=by
    refine ⟨by rw [hsz],.inl rfl,l ++ r,hc',fun x hx=>?_,by rw [hsz,List.length_append]; omega,fun j x hj=>?_⟩
    ·rcases List.mem_append.1 hx with q | q
     ·exact k4 x q
     ·exact hr x q
    ·have hj':j < l.length + r.length:=by
      have:=(List.getElem?_eq_some_iff.1 hj).1
      simpa using this
     rw [Array.getElem?_append_left (by rw [List.size_toArray,List.length_append,olen,nl]; exact hj'),List.getElem?_toArray,← List.map_append,List.getElem?_map,hj]
     rfl
   have T:=Tr.anewS (fl:=fl) s hb gb fb hmb hob hn (w':=w.drew.alloc (.cells (((l.map fun x=>Value.int .u8 (x:Nat)) ++ (r.map fun x=>Value.int .u8 (x:Nat))).toArray ++ ZS) e)) (B':=w.heap.size) (heap_alloc_new _ _) (.inr (Nat.le_refl _)) rfl rfl rfl (by simp) (fun k hk _=>RowKit.Below.heap_alloc w.drew _ _ hk) hK
   refine ⟨_,_,w.heap.size,cp,hrun,T,⟨w.heap.size,0,cp,cp,upd_self _ _,?_,?_,rfl⟩⟩
   ·omega
   ·omega
 | map es ck=>
  have h4:cg c 0=.i .i64 (.ofNat es.size):=hS.1
  rw [hc] at h4
  cases h4
 | loop rec=>
  obtain ⟨key,st,_,_,_,_,_,_,_,h4,_⟩:=hS
  rw [hc] at h4
  cases h4
 | _=>exact hS.elim
theorem read_tr (s:Sim P ρ m g h w) {b:Nat} {c:CT} (hb:hg h b=.bk c MAPZ) {l:List Nat} (hc:cg c 0=.s l) {u:Value} (du:den ρ m (.su b 0 l.length 1) u)
  {sr ds el:TypeId} (hs:P.underlying sr=some (.slice el)) (hd:P.underlying ds=some .string) (he:P.underlying el=some (.int .u8)) :
  (convert sr ds u).run P w=.ok (.string ⟨(l.map UInt8.ofNat).toArray⟩) w∧∀ x ∈ l,x < 256:=by
 obtain ⟨B,O,Z,ob,hmb,hob,hS⟩:=s.spec hb
 obtain ⟨B2,O2,Z2,cap,hm2,d1,d2,rfl⟩:=du
 rw [hmb] at hm2
 cases hm2
 cases ob with
 | cells C el2 fr=>
  obtain ⟨k1,k2,l2,k3,k4,k5,k6⟩:=hS
  rw [hc] at k3
  cases k3
  cases k1
  refine ⟨?_,k4⟩
  have hld:=run_loadCells_list (P:=P) w ⟨B,0 + 0,none⟩ (l.map fun x=>Value.int .u8 (x:Nat)) (fun j v hj=>by
   rw [add_at]
   have hj2:(l[j]?).map (fun x=>Value.int .u8 (x:Nat))=some v:=by rw [← List.getElem?_map]; exact hj
   obtain ⟨x,hx,rfl⟩:=Option.map_eq_some_iff.1 hj2
   have:=k6 j x hx
   simp only [World.cell?,hob]
   simpa using this)
  rw [List.length_map] at hld
  have hrun:=run_bytesToString (P:=P) w ⟨B,0 + 0,none⟩ l.length cap (l.map fun (z:Nat)=>(z:Int)) (by rw [hld,List.map_map]; rfl)
  rw [push_bytes] at hrun
  simp [convert,run_underlying hs,run_underlying hd,run_underlying he,hrun]
 | map es ck=>
  have h4:cg c 0=.i .i64 (.ofNat es.size):=hS.1
  rw [hc] at h4
  cases h4
 | loop rec=>
  obtain ⟨key,st,_,_,_,_,_,_,_,h4,_⟩:=hS
  rw [hc] at h4
  cases h4
 | _=>exact hS.elim
/-! what the runner does -/
theorem gMK_or {α:Type} {d:α} {v:RB} {k:CT→α} {r:α} (e:gMK d v k=r):d=r ∨ ∃ c,v=.bk c MAPZ∧k c=r:=by
 cases v with
 | bk c z=>
  rcases bf_or (show bf (Nat.beq z MAPZ) (k c) d=r from e) with ⟨h1,h2⟩ | ⟨_,h2⟩
  ·obtain rfl:=beq_ok h1
   exact .inr ⟨c,rfl,h2⟩
  ·exact .inl h2
 | _=>exact .inl e
theorem gW_or {α:Type} {d:α} {v:RV} {k:Nat→List Nat→α} {r:α} {h:HT} (e:gW d h v k=r):d=r ∨ ∃ b l c,v=.su b 0 l.length 1∧hg h b=.bk c MAPZ∧cg c 0=.s l∧k b l=r:=by
 cases v with
 | su b o l q=>
  rcases bf_or (show bf (Nat.beq o 0) _ d=r from e) with ⟨h1,e1⟩ | ⟨_,h2⟩
  ·rcases bf_or e1 with ⟨h2,e2⟩ | ⟨_,h2⟩
   ·rcases gMK_or e2 with h2 | ⟨c,h3,e3⟩
    ·exact .inl h2
    ·rcases gS_or e3 with ⟨s,h4,e4⟩ | h2
     ·rcases bf_or e4 with ⟨h5,e5⟩ | ⟨_,h2⟩
      ·obtain rfl:=beq_ok h1
       obtain rfl:=beq_ok h2
       obtain rfl:=beq_ok h5
       exact .inr ⟨b,s,c,rfl,h3,h4,e5⟩
      ·exact .inl h2
     ·exact .inl h2
   ·exact .inl h2
  ·exact .inl h2
 | _=>exact .inl e
section
variable (F:Fr P ρ m nt t a.tmps) (s:Sim P ρ m g h w)
include F s
theorem ok_b2 {sr ds el:TypeId} {x:Operand} (ho:o.op=.convert sr ds x) (hs:P.underlying sr=some (.slice el)) (hd:P.underlying ds=some .string) (he:P.underlying el=some (.int .u8)) (e:step (.b2 false (opd P nt x)) ys cl fl lim t h n=.ok v h' n'):Ok1 P ρ g fl o a m w h n v h' n':=by
 have e1:rdW (ev t (opd P nt x)) h n=.ok v h' n':=e
 rcases gW_or e1 with e2 | ⟨b,l,c,h1,h2,h3,e2⟩
 ·exact ok_b20 F s ho hs hd he e2
 ·cases e2
  have dx:=opd_ok F x (fun p=>by rw [h1] at p; cases p)
  rw [h1] at dx
  obtain ⟨hr,hb⟩:=read_tr s h2 h3 dx hs hd he
  exact Ok1.quiet (u:=.string ⟨(l.map UInt8.ofNat).toArray⟩) s (by simp [execOp,ho,hr]) ⟨rfl,hb⟩
theorem ok_s2 (hf:fl≤n) {sr ds el:TypeId} {x:Operand} (ho:o.op=.convert sr ds x) (hs:P.underlying sr=some .string) (hd:P.underlying ds=some (.slice el)) (he:P.underlying el=some (.int .u8)) (e:step (.b2 true (opd P nt x)) ys cl fl lim t h n=.ok v h' n'):Ok1 P ρ g fl o a m w h n v h' n':=by
 have e1:gS (SR.bad [243]) (ev t (opd P nt x)) (fun l=>wide h n l)=.ok v h' n':=e
 obtain ⟨l,h1,e2⟩:=gS_ok e1 (by simp)
 have dx:=opd_ok F x (fun p=>by rw [h1] at p; cases p)
 rw [h1] at dx
 obtain ⟨hx,hl⟩:=dx
 unfold wide at e2
 rw [fT_eq,fT_eq] at e2
 cases e2
 refine ⟨Ab.new _ hf,fun hfr K Q hK=>?_⟩
 have hn:m n=none:=hfr n (Nat.le_refl _) (Nat.lt_succ_self _)
 obtain ⟨u,w',cap,r1,r2,r3⟩:=conv_tr (fl:=fl) s hn hs hd he hl (cg_cst_in ce (.s l) 0 (by decide))
 refine op_value (w':=w') (u:=u) ?_ (hK _ _ _ r2 r3)
 simp [execOp,ho,hx,r1]
theorem ok_ap (hgf:g≤fl) (hf:fl≤n) {c:Call} {x y:Operand} {ty tx el:TypeId} {i:TypeInfo} {z0:Value} (ho:o.op=.call c) (hc:c.callee=.builtin .append) (hx:c.args.toList=[x,y]) (hty:c.argTypes.toList=[ty,tx]) (hk2:(∃ e',P.underlying tx=some (.slice e')) ∨ P.underlying tx=some .string)
  (ht:P.underlying ty=some (.slice el)) (hi:P.info? el=some i) (hz0:i.zero=some z0) (hsz:0 < i.size) (hM:i.size < 1048576) (hzc:z0.cells.size=i.size) (hb1:i.bytes≤65536)
  (e:step (.ap i.size (opd P nt x) (opd P nt y)) ys cl fl lim t h n=.ok v h' n'):Ok1 P ρ g fl o a m w h n v h' n':=by
 have e1:appW fl i.size (ev t (opd P nt x)) (ev t (opd P nt y)) h n=.ok v h' n':=e
 rcases gS_or e1 with ⟨r,h1,e2⟩ | e2
 case inr=>exact ok_ap0 F s hgf hf ho hc hx hty hk2 ht hi hz0 hsz hM hzc hb1 e2
 rcases gW_or e2 with e3 | ⟨b,l,c0,h2,h3,h4,e3⟩
 ·exact ok_ap0 F s hgf hf ho hc hx hty hk2 ht hi hz0 hsz hM hzc hb1 e3
 obtain ⟨h5,e4⟩:=bf_ok e3 (by simp)
 obtain ⟨h6,e5⟩:=bf_ok e4 (by simp)
 obtain ⟨h7,e6⟩:=bf_ok e5 (by simp)
 have h5:=beq_ok h5
 have h6:=ble_ok h6
 have h7:l.length + r.length≤1048576:=ble_ok h7
 have dx:=opd_ok F x (fun p=>by rw [h2] at p; cases p)
 rw [h2] at dx
 have dy:=opd_ok F y (fun p=>by rw [h1] at p; cases p)
 rw [h1] at dy
 obtain ⟨hy,hr⟩:=dy
 unfold wide at e6
 rw [fT_eq,fT_eq] at e6
 cases e6
 refine ⟨(Ab.set .no h6 (fun _ _ e=>by cases e)).trans (Ab.new _ hf),fun hfr K Q hK=>?_⟩
 have hn:m n=none:=hfr n (Nat.le_refl _) (Nat.lt_succ_self _)
 obtain ⟨u',w',B',Z',r1,r2,r3⟩:=app_tr (fl:=fl) (rt:=o.type) s hn (Nat.le_trans hgf h6) h6 h3 h4 (cg_cst_in ce (.s (l ++ r)) 0 (by decide)) dx ht hk2 hi hz0 h5 (by rw [hzc,h5]) hb1 hr h7
 rw [← List.length_append] at r3
 refine op_value (w':=w') (u:=u') ?_ (hK _ _ _ r2 r3)
 simp [execOp,ho,resolve,hc,two_arr hx,two_arr hty,invoke,builtin,hy,r1]
end
end Go.Rn
namespace Go.Rn
variable {ρ:Nat→Int} {m m':Mp} {P:Program}
variable {g fl n n' nt lim:Nat} {h h':HT} {t:FT} {a:Act} {o:Oper} {w:World} {v:RV} {ys:Ys} {cl:Cl'}
theorem step_bad (e:step badP ys cl fl lim t h n=.ok v h' n'):False:=by
 have e1:gT (SR.bad [63]) (RV.un) (fun c=>okV (chGet c 0) h n 64)=.ok v h' n':=e
 cases e1
theorem ok_mvP (F:Fr P ρ m nt t a.tmps) (s:Sim P ρ m g h w) {x:Operand} (ho:o.op=.move x ∨ o.op=.assign x) (e:step (mvP P nt x) ys cl fl lim t h n=.ok v h' n'):Ok1 P ρ g fl o a m w h n v h' n':=by
 unfold mvP at e
 split at e
 ·have e1:SR.ok .un h n=.ok v h' n':=e
  cases e1
  refine Ok1.quiet (u:=a.eval x) s ?_ trivial
  rcases ho with ho | ho <;> simp [execOp,ho]
 ·exact ok_mv F s ho e
theorem ptr_size {el:TypeId} {x y:Operand} (h:¬ (isNilC x || isNilC y || decide (szOf P el=some 0) || decide (szOf P el=none))=true):∃ sz,szOf P el=some sz∧sz ≠ 0:=by
 cases hz:szOf P el with
 | none=>rw [hz] at h; simp at h
 | some sz=>rw [hz] at h; exact ⟨sz,rfl,by simp at h; exact h.2⟩
theorem step_ok (hy:YsOk ρ ys) (hcl:ClOk P ρ g cl) (F:Fr P ρ m nt t a.tmps) (s:Sim P ρ m g h w) (hgf:g≤fl) (hf:fl≤n) {rp:RP} (hc:compOp P nt o.op=some rp)
  (e:step rp ys cl fl lim t h n=.ok v h' n'):Ok1 P ρ g fl o a m w h n v h' n':=by
 cases ho:o.op with
 | move x=>rw [ho] at hc; cases hc; exact ok_mvP F s (.inl ho) e
 | assign x=>rw [ho] at hc; cases hc; exact ok_mvP F s (.inr ho) e
 | pick c x y=>rw [ho] at hc; cases hc; exact ok_pick F s ho e
 | alloc ty=>
  rw [ho] at hc
  have hc1:(zeroOf P ty).bind (fun z=>some (.al (chain z.cells.toList)))=some rp:=hc
  obtain ⟨z,hz,e1⟩:=Option.bind_eq_some_iff.1 hc1
  cases e1
  exact ok_al s hf ho hz e
 | box ty x=>rw [ho] at hc; cases hc; exact ok_bx F s hf ho e
 | build ty ps=>
  rw [ho] at hc
  simp only [compOp,Option.bind_eq_bind,Option.bind_eq_some_iff] at hc
  obtain ⟨z,hz,l,hl,h1⟩:=hc
  split at h1
  ·rename_i hk
   cases h1
   exact ok_bd F s ho hz hl hk e
  ·cases h1
 | buildSlice ty len ps=>
  rw [ho] at hc
  simp only [compOp] at hc
  split at hc
  ·rename_i el hu
   simp only [Option.bind_eq_bind,Option.bind_eq_some_iff] at hc
   obtain ⟨sz,hs,z,hz,h1⟩:=hc
   split at h1
   ·rename_i hk
    cases h1
    exact ok_bs F s hf ho hu hs hz hk.1 hk.2.1 hk.2.2.1 hk.2.2.2 e
   ·cases h1
  ·cases hc
 | load ty x=>
  rw [ho] at hc
  simp only [compOp,Option.bind_eq_bind,Option.bind_eq_some_iff] at hc
  obtain ⟨sz,hs,gg,hg,h1⟩:=hc
  cases h1
  exact ok_ld F s hf ho hs hg e
 | store ty x y=>
  rw [ho] at hc
  simp only [compOp,Option.bind_eq_bind,Option.bind_eq_some_iff] at hc
  obtain ⟨sz,hs,h1⟩:=hc
  split at h1
  ·rename_i h0
   cases h1
   exact ok_st F s hf hgf h0 ho hs e
  ·cases h1
 | nilCheck x=>rw [ho] at hc; cases hc; exact ok_nc F s ho e
 | binOp op ty x y yt=>
  rw [ho] at hc
  simp only [compOp] at hc
  split at hc
  ·split at hc
   ·rename_i hu; cases hc; exact ok_bq F s (.inl ⟨rfl,rfl⟩) ho hu e
   ·rename_i el hu
    split at hc
    ·cases hc; exact ok_nq F s (.inl ⟨rfl,rfl⟩) ho (.inl ⟨rfl,el,hu⟩) (fun h=>by cases h) e
    ·rename_i hc0
     cases hc
     obtain ⟨sz,h1,h2⟩:=ptr_size hc0
     exact ok_pq F s hgf (.inl ⟨rfl,rfl⟩) ho hu h1 h2 e
   ·rename_i el hu; cases hc; exact ok_nq F s (.inl ⟨rfl,rfl⟩) ho (.inr (.inl ⟨rfl,el,hu⟩)) (fun h=>by cases h) e
   ·rename_i a b c hu; cases hc; exact ok_nq F s (.inl ⟨rfl,rfl⟩) ho (.inr (.inr (.inl ⟨rfl,a,b,c,hu⟩))) (fun h=>by cases h) e
   ·rename_i ms hu
    split at hc
    ·rename_i hcc; cases hc; exact ok_nq F s (.inl ⟨rfl,rfl⟩) ho (.inr (.inr (.inr ⟨rfl,ms,hu⟩))) (fun _=>by simpa using hcc) e
    ·cases hc; exact ok_ise F s (.inl ⟨rfl,rfl⟩) ho hu e
   ·rename_i fs hu; cases hc; exact ok_cse F s hy (.inl ⟨rfl,rfl⟩) ho hu e
   ·rename_i len el hu; cases hc; exact ok_cae F s hy (.inl ⟨rfl,rfl⟩) ho hu e
   ·cases hc; exact ok_bn F s hy ho e
  ·split at hc
   ·rename_i hu; cases hc; exact ok_bq F s (.inr ⟨rfl,rfl⟩) ho hu e
   ·rename_i el hu
    split at hc
    ·cases hc; exact ok_nq F s (.inr ⟨rfl,rfl⟩) ho (.inl ⟨rfl,el,hu⟩) (fun h=>by cases h) e
    ·rename_i hc0
     cases hc
     obtain ⟨sz,h1,h2⟩:=ptr_size hc0
     exact ok_pq F s hgf (.inr ⟨rfl,rfl⟩) ho hu h1 h2 e
   ·rename_i el hu; cases hc; exact ok_nq F s (.inr ⟨rfl,rfl⟩) ho (.inr (.inl ⟨rfl,el,hu⟩)) (fun h=>by cases h) e
   ·rename_i a b c hu; cases hc; exact ok_nq F s (.inr ⟨rfl,rfl⟩) ho (.inr (.inr (.inl ⟨rfl,a,b,c,hu⟩))) (fun h=>by cases h) e
   ·rename_i ms hu
    split at hc
    ·rename_i hcc; cases hc; exact ok_nq F s (.inr ⟨rfl,rfl⟩) ho (.inr (.inr (.inr ⟨rfl,ms,hu⟩))) (fun _=>by simpa using hcc) e
    ·cases hc; exact ok_ise F s (.inr ⟨rfl,rfl⟩) ho hu e
   ·rename_i fs hu; cases hc; exact ok_cse F s hy (.inr ⟨rfl,rfl⟩) ho hu e
   ·rename_i len el hu; cases hc; exact ok_cae F s hy (.inr ⟨rfl,rfl⟩) ho hu e
   ·cases hc; exact ok_bn F s hy ho e
  ·cases hc; exact ok_bn F s hy ho e
 | unOp op ty x=>
  rw [ho] at hc
  simp only [compOp] at hc
  split at hc
  ·cases hc; exact ok_ng F s ho e
  ·cases hc; exact ok_nt F s ho e
  ·cases hc
 | convert sr ds x=>
  rw [ho] at hc
  simp only [compOp] at hc
  split at hc
  ·rename_i d k h1 h2; cases hc; exact ok_cv F s ho h1 h2 e
  ·rename_i el h1 h2
   split at hc
   ·rename_i h3; cases hc; exact ok_b2 F s ho h1 h2 h3 e
   ·cases hc
  ·rename_i el h1 h2
   split at hc
   ·rename_i h3; cases hc; exact ok_s2 F s hf ho h1 h2 h3 e
   ·cases hc
  ·cases hc
 | makeFunc fn first captured=>
  rw [ho] at hc
  simp only [compOp] at hc
  split at hc
  ·rename_i f hf1
   split at hc
   ·rename_i hlt; cases hc; exact ok_mf F s ho hf1 hlt e
   ·cases hc
  ·rename_i f x hf1
   split at hc
   ·rename_i hlt; cases hc; exact ok_mb F s hlt ho hf1 e
   ·cases hc
  ·cases hc
 | makeSlice ty l c=>
  rw [ho] at hc
  simp only [compOp] at hc
  split at hc
  ·rename_i el hu
   simp only [Option.bind_eq_bind,Option.bind_eq_some_iff] at hc
   obtain ⟨i,hi,z,hz,h1⟩:=hc
   split at h1
   ·rename_i hk
    cases h1
    exact ok_ms F s hf ho hu hi hz hk.1 hk.2.1 hk.2.2.1 hk.2.2.2 e
   ·cases h1
  ·cases hc
 | slice ty x lo hi mx=>
  rw [ho] at hc
  simp only [compOp] at hc
  split at hc
  ·rename_i el hu
   simp only [Option.bind_eq_bind,Option.bind_eq_some_iff] at hc
   obtain ⟨sz,hs,h1⟩:=hc
   split at h1
   ·rename_i hk
    cases h1
    exact ok_sc F s ho hu hs hk.2 e
   ·cases h1
  ·rename_i hu
   split at hc
   ·rename_i hk
    cases hc
    exact ok_ss F s ho hu hk e
   ·cases hc
  ·rename_i k el hu
   simp only [Option.bind_eq_bind,Option.bind_eq_some_iff] at hc
   obtain ⟨sz,hs,h1⟩:=hc
   split at h1
   ·rename_i hk
    cases h1
    exact ok_sa F s ho hu hs hk.2 e
   ·cases h1
  ·cases hc
 | fieldAddr ty x k=>
  rw [ho] at hc
  simp only [compOp] at hc
  split at hc
  ·rename_i fs hu
   simp only [Option.bind_eq_bind,Option.bind_eq_some_iff] at hc
   obtain ⟨f,hf1,sz,hs,h1⟩:=hc
   split at h1
   ·rename_i h0
    cases h1
    exact ok_fa F s ho hu hf1 hs h0 e
   ·cases h1
  ·cases hc
 | field ty x k=>
  rw [ho] at hc
  simp only [compOp] at hc
  split at hc
  ·rename_i fs hu
   simp only [Option.bind_eq_bind,Option.bind_eq_some_iff] at hc
   obtain ⟨f,hf1,sz,hs,gg,hg,h1⟩:=hc
   cases h1
   exact ok_fd F s ho hu hf1 hs hg e
  ·cases hc
 | indexAddr ty x i=>
  rw [ho] at hc
  simp only [compOp] at hc
  split at hc
  ·rename_i el hu
   simp only [Option.bind_eq_bind,Option.bind_eq_some_iff] at hc
   obtain ⟨sz,hs,h1⟩:=hc
   split at h1
   ·cases h1; exact ok_ia F s ho hu hs e
   ·cases h1
  ·rename_i k el hu
   simp only [Option.bind_eq_bind,Option.bind_eq_some_iff] at hc
   obtain ⟨sz,hs,h1⟩:=hc
   split at h1
   ·cases h1; exact ok_ip F s ho hu hs e
   ·cases h1
  ·cases hc
 | index ty x i=>
  rw [ho] at hc
  simp only [compOp] at hc
  split at hc
  ·rename_i k el hu
   simp only [Option.bind_eq_bind,Option.bind_eq_some_iff] at hc
   obtain ⟨sz,hs,gg,hg,h1⟩:=hc
   split at h1
   ·cases h1; exact ok_ix F s ho hu hs hg e
   ·cases h1
  ·rename_i hu; cases hc; exact ok_sx F s ho hu e
  ·cases hc
 | extract x k=>rw [ho] at hc; cases hc; exact ok_ex F s ho e
 | makeInterface ty x=>
  rw [ho] at hc
  simp only [compOp] at hc
  split at hc
  ·cases hc
  ·rename_i d hne hu; cases hc; exact ok_mkIf F s ho hu hne e
  ·cases hc
 | typeAssert x xt ty two=>
  rw [ho] at hc
  simp only [compOp] at hc
  split at hc
  ·cases hc
  ·rename_i d hne hu
   simp only [Option.bind_eq_bind,Option.bind_eq_some_iff] at hc
   obtain ⟨z,hz,h1⟩:=hc
   cases h1
   exact ok_ta F s ho hu hne hz e
  ·cases hc
 | call c=>
  rw [ho] at hc
  simp only [compOp,compCall] at hc
  split at hc
  ·rename_i f hcc
   split at hc
   ·rename_i hk; cases hc; exact ok_cl F s hcl hgf hf ho hcc hk.1 hk.2 e
   ·cases hc
  ·rename_i x _ hcc; cases hc; exact ok_cf F s hcl hgf hf ho hcc e
  ·rename_i x name hcc; cases hc; exact ok_iv F s hcl hgf hf ho hcc e
  ·rename_i b hcc
   split at hc
   ·rename_i x ty hx ht
    split at hc
    ·rename_i hu; cases hc; exact ok_ls F s ho hcc hx ht hu e
    ·rename_i el hu; cases hc; exact ok_ln F s ho hcc hx ht hu e
    ·rename_i k el hu; cases hc; exact ok_la F s ho (.inl hcc) hx ht hu e
    ·cases hc
   ·rename_i x ty hx ht
    split at hc
    ·rename_i el hu; cases hc; exact ok_cp F s ho hcc hx ht hu e
    ·rename_i k el hu; cases hc; exact ok_la F s ho (.inr hcc) hx ht hu e
    ·cases hc
   ·rename_i x y ty ty2 hx ht
    split at hc
    ·rename_i el hu heq
     have:ty=ty2:=by simpa using heq
     subst this
     simp only [Option.bind_eq_bind,Option.bind_eq_some_iff] at hc
     obtain ⟨i,hi,z,hz,h1⟩:=hc
     split at h1
     ·rename_i hk
      cases h1
      exact ok_ap F s hgf hf ho hcc hx ht (.inl ⟨el,hu⟩) hu hi hz hk.1.1 hk.1.2 hk.2.2 hk.2.1 e
     ·cases h1
    ·rename_i el hu heq
     split at hc
     ·rename_i k0 hu2
      simp only [Option.bind_eq_bind,Option.bind_eq_some_iff] at hc
      obtain ⟨i,hi,z,hz,h1⟩:=hc
      split at h1
      ·rename_i hk
       cases h1
       exact ok_az F s hgf hf ho hcc hx ht hu hu2 hi hz hk.1.1 hk.1.2 hk.2.2.1 hk.2.1 hk.2.2.2 e
      ·cases h1
     ·rename_i hu2
      simp only [Option.bind_eq_bind,Option.bind_eq_some_iff] at hc
      obtain ⟨i,hi,z,hz,h1⟩:=hc
      split at h1
      ·rename_i hk
       cases h1
       exact ok_ap F s hgf hf ho hcc hx ht (.inr hu2) hu hi hz hk.1.1 hk.1.2 hk.2.2 hk.2.1 e
      ·cases h1
     ·rename_i e2 hu2
      simp only [Option.bind_eq_bind,Option.bind_eq_some_iff] at hc
      obtain ⟨i,hi,z,hz,h1⟩:=hc
      split at h1
      ·rename_i hk
       cases h1
       exact ok_ap F s hgf hf ho hcc hx ht (.inl ⟨e2,hu2⟩) hu hi hz hk.1.1 hk.1.2 hk.2.2 hk.2.1 e
      ·cases h1
     ·cases hc
    ·cases hc
   ·rename_i x y ty ty2 hx ht
    split at hc
    ·rename_i el _ hu _
     simp only [Option.bind_eq_bind,Option.bind_eq_some_iff] at hc
     obtain ⟨sz,hs,h1⟩:=hc
     split at h1
     ·rename_i h0
      cases h1
      exact ok_cy F s hgf hf ho hcc hx ht hu hs h0 e
     ·cases h1
    ·cases hc
   ·rename_i x ty hx ht
    split at hc
    ·rename_i el hu
     simp only [Option.bind_eq_bind,Option.bind_eq_some_iff] at hc
     obtain ⟨i,hi,z,hz,h1⟩:=hc
     split at h1
     ·rename_i hk
      cases h1
      exact ok_cr F s hgf hf ho hcc hx ht hu hi hz hk.1 hk.2.1 hk.2.2 e
     ·cases h1
    ·cases hc
   ·rename_i x y hx; cases hc; exact ok_mm F s ho (.inl ⟨hcc,rfl⟩) hx e
   ·rename_i x y hx; cases hc; exact ok_mm F s ho (.inr ⟨hcc,rfl⟩) hx e
   ·cases hc
 | makeMap ty r=>
  rw [ho] at hc
  simp only [compOp] at hc
  split at hc
  ·rename_i kt el ht hr
   cases hc
   exact ok_mk s hf ho ht hr e
  ·cases hc
 | insert ty mo ko xo=>
  rw [ho] at hc
  simp only [compOp] at hc
  split at hc
  ·rename_i kt el ht
   simp only [Option.bind_eq_bind,Option.bind_eq_some_iff] at hc
   obtain ⟨q,hq,h1⟩:=hc
   cases h1
   exact ok_mi hy F s hgf (.inl ho) ht hq e
  ·cases hc
 | mapUpdate ty mo ko xo=>
  rw [ho] at hc
  simp only [compOp] at hc
  split at hc
  ·rename_i kt el ht
   simp only [Option.bind_eq_bind,Option.bind_eq_some_iff] at hc
   obtain ⟨q,hq,h1⟩:=hc
   cases h1
   exact ok_mi hy F s hgf (.inr ho) ht hq e
  ·cases hc
 | lookup ty mo ko two=>
  rw [ho] at hc
  simp only [compOp] at hc
  split at hc
  ·rename_i kt el ht
   simp only [Option.bind_eq_bind,Option.bind_eq_some_iff] at hc
   obtain ⟨z,hz,q,hq,h1⟩:=hc
   cases h1
   exact ok_ml hy F s hgf ho ht hz hq e
  ·cases hc
 | _=>rw [ho] at hc; cases hc
end Go.Rn
