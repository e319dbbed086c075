/-
  One text of a symbolic evaluator over the model, shown sound once for every program: no statement is claimed here.
-/
import Derived.Test.YthfaoceleaaepaaGreatDoorRqC
namespace Go.Rn
attribute [local irreducible] HT10 CT9
section
variable {v:RV} {y n s k0:A}
theorem cB_ok {k:Bool→A} (h:Good (cB v k)):∃ x,v=.b x∧Good (k x):=by cases v <;> first | exact ⟨_,rfl,h⟩ | exact Good.no h
theorem cI_ok {k:IntKind→Int→A} (h:Good (cI v k)):∃ j z,v=.i j z∧Good (k j z):=by cases v <;> first | exact ⟨_,_,rfl,h⟩ | exact Good.no h
theorem cS_ok {k:List Nat→A} (h:Good (cS v k)):∃ x,v=.s x∧Good (k x):=by cases v <;> first | exact ⟨_,rfl,h⟩ | exact Good.no h
theorem cP_ok {k:Nat→Nat→A} (h:Good (cP v k)):∃ b o,v=.p b o∧Good (k b o):=by cases v <;> first | exact ⟨_,_,rfl,h⟩ | exact Good.no h
theorem cF_ok {k:Nat→RV→A} (h:Good (cF v k)):∃ f c,v=.fn f c∧Good (k f c):=by cases v <;> first | exact ⟨_,_,rfl,h⟩ | exact Good.no h
theorem cA_ok {k:RV→A} (h:Good (cA v k)):∃ c,v=.agg c∧Good (k c):=by cases v <;> first | exact ⟨_,rfl,h⟩ | exact Good.no h
theorem cT_ok {k:RV→A} (h:Good (cT v k)):∃ c,v=.tup c∧Good (k c):=by cases v <;> first | exact ⟨_,rfl,h⟩ | exact Good.no h
theorem cN_ok {k:RV→RV→A} (h:Good (cN v k)):∃ a r,v=.cons a r∧Good (k a r):=by cases v <;> first | exact ⟨_,_,rfl,h⟩ | exact Good.no h
theorem cNn_ok {k:RV→RV→A} (h:Good (cNn v k0 k)):(v=.nil∧Good k0) ∨ ∃ a r,v=.cons a r∧Good (k a r):=by cases v <;> first | exact .inr ⟨_,_,rfl,h⟩ | exact .inl ⟨rfl,h⟩ | exact Good.no h
theorem cU_ok (h:Good (cU v y)):v ≠ .un∧Good y:=by cases v <;> first | exact ⟨by simp,h⟩ | exact Good.no h
theorem cUv_ok {k:RV→A} (h:Good (cUv v k)):v ≠ .un∧Good (k v):=by cases v <;> first | exact ⟨by simp,h⟩ | exact Good.no h
theorem cL_ok {k1 k2:Nat→Nat→Nat→Nat→A} {k3:Nat→Nat→A} (h:Good (cL v k0 k1 k2 k3)):(v=.ns∧Good k0) ∨ (∃ b o l c,v=.sl b o l c∧Good (k1 b o l c)) ∨ (∃ b o l e,v=.su b o l e∧Good (k2 b o l e)) ∨ (∃ b e,v=.sx b e∧Good (k3 b e)):=by
 cases v <;> first | exact .inl ⟨rfl,h⟩ | exact .inr (.inl ⟨_,_,_,_,rfl,h⟩) | exact .inr (.inr (.inl ⟨_,_,_,_,rfl,h⟩)) | exact .inr (.inr (.inr ⟨_,_,rfl,h⟩)) | exact Good.no h
theorem cC_ok {k:RV→A} (h:Good (cC v k y)):(∃ c,v=.agg c∧Good (k c)) ∨ ((∀ {α:Type} (d:α) (f:RV→α),gC d v f=f (.cons v .nil))∧v ≠ .un∧Good y):=by
 cases v <;> first | exact .inl ⟨_,rfl,h⟩ | exact .inr ⟨fun _ _=>rfl,by simp,h⟩ | exact Good.no h
theorem ifA_ok {c:Bool} (h:Good (ifA c y n)):(c=true∧Good y) ∨ (c=false∧Good n):=by cases c <;> first | exact .inl ⟨rfl,h⟩ | exact .inr ⟨rfl,h⟩
theorem ifA_y {c:Bool} (h:Good (ifA c y .no)):c=true∧Good y:=by cases c <;> first | exact ⟨rfl,h⟩ | exact Good.no h
theorem cNc_ok (h:Good (cNc v y)):((∃ b o,v=.p b o) ∨ ∃ f c,v=.fn f c∧(Nat.ble 33554432 f=true→∃ a r,c=.cons a r))∧Good y:=by
 cases v <;> first | exact ⟨.inl ⟨_,_,rfl⟩,h⟩ | exact Good.no h | skip
 rename_i f c
 rcases ifA_ok (show Good (ifA (Nat.ble 33554432 f) (cN c fun _ _=>y) y) from h) with ⟨_,h1⟩ | ⟨e,h1⟩
 ·obtain ⟨a,r,e,h2⟩:=cN_ok h1
  exact ⟨.inr ⟨f,c,rfl,fun _=>⟨a,r,e⟩⟩,h2⟩
 ·exact ⟨.inr ⟨f,c,rfl,fun q=>by rw [e] at q; cases q⟩,h1⟩
theorem cNil_ok {k:Nat→Bool→A} (h:Good (cNil v k)):∃ q a,isNil v=some (q,a)∧Good (k q a):=by
 cases v <;> first | exact ⟨_,_,rfl,h⟩ | exact Good.no h | skip
 rename_i f c
 rcases ifA_ok (show Good (ifA (Nat.ble 33554432 f) (cNn c (k 3 true) fun x r=>cNn x (cNn r .no fun _ q=>cNn q (k 3 false) fun _ _=>.no) fun _ _=>.no) (k 2 false)) from h) with ⟨e,h1⟩ | ⟨e,h1⟩
 ·rcases cNn_ok h1 with ⟨rfl,h2⟩ | ⟨x,r,rfl,h2⟩
  ·refine ⟨3,true,?_,h2⟩
   show bf (Nat.ble 33554432 f) (some (3,true)) (some (2,false))=_
   rw [e]; rfl
  ·rcases cNn_ok h2 with ⟨rfl,h3⟩ | ⟨_,_,_,h3⟩
   ·rcases cNn_ok h3 with ⟨_,h4⟩ | ⟨y,q,rfl,h4⟩
    ·exact Good.no h4
    ·rcases cNn_ok h4 with ⟨rfl,h5⟩ | ⟨_,_,_,h5⟩
     ·refine ⟨3,false,?_,h5⟩
      show bf (Nat.ble 33554432 f) (some (3,false)) (some (2,false))=_
      rw [e]; rfl
     ·exact Good.no h5
   ·exact Good.no h3
 ·refine ⟨2,false,?_,h1⟩
  show bf (Nat.ble 33554432 f) _ (some (2,false))=_
  rw [e]; rfl
theorem cIf_ok {z:A} {k:Nat→RV→A} (h:Good (cIf v z k)):∃ f,Nat.ble 33554432 f=true∧((v=.fn f .nil∧Good z) ∨ ∃ x,v=.fn f (.cons .nil (.cons x .nil))∧Good (k f x)):=by
 unfold cIf at h
 obtain ⟨f,c,rfl,h1⟩:=cF_ok h
 obtain ⟨hb,h2⟩:=ifA_y h1
 refine ⟨f,hb,?_⟩
 rcases cNn_ok h2 with ⟨rfl,h3⟩ | ⟨y,r,rfl,h3⟩
 ·exact .inl ⟨rfl,h3⟩
 ·rcases cNn_ok h3 with ⟨rfl,h4⟩ | ⟨_,_,_,h4⟩
  ·obtain ⟨x,q,rfl,h5⟩:=cN_ok h4
   rcases cNn_ok h5 with ⟨rfl,h6⟩ | ⟨_,_,_,h6⟩
   ·exact .inr ⟨x,rfl,h6⟩
   ·exact Good.no h6
  ·exact Good.no h4
theorem gIf_nil {d z:SR} {k:Nat→RV→SR} {f:Nat} (hf:Nat.ble 33554432 f=true):gIf d (.fn f .nil) z k=z:=by
 show bf (Nat.ble 33554432 f) z d=z
 rw [hf]; rfl
theorem gIf_if {d z:SR} {k:Nat→RV→SR} {f:Nat} {x:RV} (hf:Nat.ble 33554432 f=true):gIf d (.fn f (.cons .nil (.cons x .nil))) z k=k f x:=by
 show bf (Nat.ble 33554432 f) (k f x) d=k f x
 rw [hf]; rfl
theorem cG_ok {w:Bool} (h:Good (cG v w y n)):(∃ x,v=.b x∧eqB x w=true∧Good y) ∨ (∃ x,v=.b x∧eqB x w=false∧Good n) ∨ (v=.ud∧Good n):=by
 cases v <;> first | exact .inr (.inr ⟨rfl,h⟩) | exact Good.no h | skip
 rcases ifA_ok (show Good (ifA _ y n) from h) with ⟨a,b⟩ | ⟨a,b⟩
 ·exact .inl ⟨_,rfl,a,b⟩
 ·exact .inr (.inl ⟨_,rfl,a,b⟩)
theorem cY_ok {k:IntKind→SE→A} {ki:IntKind→Int→A} (h:Good (cY v k ki)):(∃ j z,v=.i j z∧Good (ki j z)) ∨ ∃ j e,v=.y j e∧Good (k j e):=by cases v <;> first | exact .inl ⟨_,_,rfl,h⟩ | exact .inr ⟨_,_,rfl,h⟩ | exact Good.no h
theorem iN_ok {z:Int} {k:Nat→A} (h:Good (iN z k s)):(∃ m,z=.ofNat m∧Good (k m)) ∨ Good s:=by cases z <;> first | exact .inl ⟨_,rfl,h⟩ | exact .inr h
theorem cM_ok {ki ku:Nat→A} (h:Good (cM v ki ku s)):(∃ m,v=.i .i64 (.ofNat m)∧Good (ki m)) ∨ (∃ m,v=.i .u64 (.ofNat m)∧Good (ku m)) ∨ Good s:=by
 cases v <;> first | exact .inr (.inr h) | skip
 rename_i j z
 rcases iN_ok (show Good (iN z _ s) from h) with ⟨m,rfl,h1⟩ | h1
 ·cases j <;> first | exact .inl ⟨_,rfl,h1⟩ | exact .inr (.inl ⟨_,rfl,h1⟩) | exact .inr (.inr h1)
 ·exact .inr (.inr h1)
theorem cK_ok {k:Nat→A} (h:Good (cK v k)):∃ j m,v=.i j (.ofNat m)∧Good (k m):=by
 cases v <;> first | exact Good.no h | skip
 rename_i j z
 rcases iN_ok (show Good (iN z k .no) from h) with ⟨m,rfl,h1⟩ | h1
 ·exact ⟨_,_,rfl,h1⟩
 ·exact Good.no h1
theorem frc_ok {r:Nat} {k:Nat→A} (h:Good (frc r k)):Good (k r):=by cases r <;> exact h
theorem cON_ok {o:Option Nat} {k:Nat→A} (h:Good (cON o k)):∃ x,o=some x∧Good (k x):=by cases o <;> first | exact ⟨_,rfl,h⟩ | exact Good.no h
theorem cOV_ok {o:Option RV} {k:RV→A} (h:Good (cOV o n k)):(o=none∧Good n) ∨ ∃ x,o=some x∧Good (k x):=by cases o <;> first | exact .inr ⟨_,rfl,h⟩ | exact .inl ⟨rfl,h⟩
theorem mkBk_ok {b:Bool} {k:RV→A} (h:Good (mkBk b k)):Good (k (mkB b)):=by cases b <;> exact h
theorem cLen_ok {k:Nat→A} (h:Good (cLen v k)):∃ l,slLen v=some l∧Good (k l):=by cases v <;> first | exact ⟨_,rfl,h⟩ | exact Good.no h
end
/-! trees -/
def PK:Pq→Nat→Prop
 | .z,k=>k=0
 | .a p,k=>∃ j,k=4 * j + 1∧PK p j
 | .b p,k=>∃ j,k=4 * j + 2∧PK p j
 | .c p,k=>∃ j,k=4 * j + 3∧PK p j
 | .d p,k=>∃ j,k=4 * j + 4∧PK p j
 | .e,_=>True
theorem four_ok {p:Pq} {j q:Nat} (h:PK p (q / 4)) (hj:j=q % 4):PK (fourW j p) (q + 1):=by
 match j,hj with
 | 0,hj=>exact ⟨q / 4,by omega,h⟩
 | 1,hj=>exact ⟨q / 4,by omega,h⟩
 | 2,hj=>exact ⟨q / 4,by omega,h⟩
 | 3,hj=>exact ⟨q / 4,by omega,h⟩
 | j + 4,hj=>omega
theorem path_ok:∀ f k,PK (pathF f k) k
 | 0,0=>rfl
 | 0,_ + 1=>trivial
 | _ + 1,0=>rfl
 | f + 1,q + 1=>four_ok (p:=pathF f (q / 4)) (path_ok f (q / 4)) rfl
def GetOk (X T:Type) (get:Pq→T→(X→A)→A) (R:T→(Nat→X)→Prop) (bd:Nat):Prop:=∀ p k t f c,PK p k→R t f→Good (get p t c)→k < bd∧Good (c (f k))
def UpdOk (X T:Type) (upd:Pq→T→(X→(X→A)→A)→(T→A)→A) (R:T→(Nat→X)→Prop) (bd:Nat):Prop:=
 ∀ p k t f u c,PK p k→R t f→Good (upd p t u c)→k < bd∧∃ g:X→A,Good (u (f k) g)∧∀ x,Good (g x)→∃ t',R t' (fun j=>if j=k then x else f j)∧Good (c t')
def RelS (X T:Type) (R:T→(Nat→X)→Prop) (t:Nd X T) (f:Nat→X):Prop:=
 ∃ a b c d,t=(fun s=>s (f 0) a b c d)∧R a (fun j=>f (4 * j + 1))∧R b (fun j=>f (4 * j + 2))∧R c (fun j=>f (4 * j + 3))∧R d (fun j=>f (4 * j + 4))
theorem getS_ok {X T:Type} {ih:Pq→T→(X→A)→A} {R:T→(Nat→X)→Prop} {bd:Nat} (hi:GetOk X T ih R bd):GetOk X (Nd X T) (stG X T ih) (RelS X T R) (4 * bd + 1):=by
 rintro p k t f c hp ⟨a,b,c',d,rfl,ra,rb,rc,rd⟩ h
 cases p with
 | z=>have:k=0:=hp; subst this; exact ⟨by omega,h⟩
 | a q=>obtain ⟨j,rfl,hq⟩:=hp; obtain ⟨h1,h2⟩:=hi q j a _ c hq ra h; exact ⟨by omega,h2⟩
 | b q=>obtain ⟨j,rfl,hq⟩:=hp; obtain ⟨h1,h2⟩:=hi q j b _ c hq rb h; exact ⟨by omega,h2⟩
 | c q=>obtain ⟨j,rfl,hq⟩:=hp; obtain ⟨h1,h2⟩:=hi q j c' _ c hq rc h; exact ⟨by omega,h2⟩
 | d q=>obtain ⟨j,rfl,hq⟩:=hp; obtain ⟨h1,h2⟩:=hi q j d _ c hq rd h; exact ⟨by omega,h2⟩
 | e=>exact Good.no h
theorem fun_at {X:Type} {f:Nat→X} {x:X} {i j:Nat}:(fun q=>if q=j then x else f (4 * q + i))=(fun q=>if 4 * q + i=4 * j + i then x else f (4 * q + i)):=by
 funext q
 by_cases h:q=j
 ·rw [if_pos h,if_pos (by omega)]
 ·rw [if_neg h,if_neg (by omega)]
theorem fun_off {X:Type} {f:Nat→X} {x:X} {i k:Nat} (h:∀ q,4 * q + i ≠ k):(fun q=>f (4 * q + i))=(fun q=>if 4 * q + i=k then x else f (4 * q + i)):=by
 funext q
 rw [if_neg (h q)]
theorem updS_ok {X T:Type} {ih:Pq→T→(X→(X→A)→A)→(T→A)→A} {R:T→(Nat→X)→Prop} {bd:Nat} (hi:UpdOk X T ih R bd):UpdOk X (Nd X T) (stS X T ih) (RelS X T R) (4 * bd + 1):=by
 rintro p k t f u c hp ⟨a,b,c',d,rfl,ra,rb,rc,rd⟩ h
 cases p with
 | z=>
  have:k=0:=hp
  subst this
  exact ⟨by omega,_,h,fun x hx=>⟨_,⟨a,b,c',d,rfl,by rw [← fun_off (by omega)]; exact ra,by rw [← fun_off (by omega)]; exact rb,by rw [← fun_off (by omega)]; exact rc,by rw [← fun_off (by omega)]; exact rd⟩,hx⟩⟩
 | a q=>
  obtain ⟨j,rfl,hq⟩:=hp
  obtain ⟨h1,g,h2,h3⟩:=hi q j a _ u _ hq ra h
  refine ⟨by omega,g,h2,fun x hx=>?_⟩
  obtain ⟨t',r',h4⟩:=h3 x hx
  exact ⟨_,⟨t',b,c',d,by simp,by rw [← fun_at]; exact r',by rw [← fun_off (by omega)]; exact rb,by rw [← fun_off (by omega)]; exact rc,by rw [← fun_off (by omega)]; exact rd⟩,h4⟩
 | b q=>
  obtain ⟨j,rfl,hq⟩:=hp
  obtain ⟨h1,g,h2,h3⟩:=hi q j b _ u _ hq rb h
  refine ⟨by omega,g,h2,fun x hx=>?_⟩
  obtain ⟨t',r',h4⟩:=h3 x hx
  exact ⟨_,⟨a,t',c',d,by simp,by rw [← fun_off (by omega)]; exact ra,by rw [← fun_at]; exact r',by rw [← fun_off (by omega)]; exact rc,by rw [← fun_off (by omega)]; exact rd⟩,h4⟩
 | c q=>
  obtain ⟨j,rfl,hq⟩:=hp
  obtain ⟨h1,g,h2,h3⟩:=hi q j c' _ u _ hq rc h
  refine ⟨by omega,g,h2,fun x hx=>?_⟩
  obtain ⟨t',r',h4⟩:=h3 x hx
  exact ⟨_,⟨a,b,t',d,by simp,by rw [← fun_off (by omega)]; exact ra,by rw [← fun_off (by omega)]; exact rb,by rw [← fun_at]; exact r',by rw [← fun_off (by omega)]; exact rd⟩,h4⟩
 | d q=>
  obtain ⟨j,rfl,hq⟩:=hp
  obtain ⟨h1,g,h2,h3⟩:=hi q j d _ u _ hq rd h
  refine ⟨by omega,g,h2,fun x hx=>?_⟩
  obtain ⟨t',r',h4⟩:=h3 x hx
  exact ⟨_,⟨a,b,c',t',by simp,by rw [← fun_off (by omega)]; exact ra,by rw [← fun_off (by omega)]; exact rb,by rw [← fun_off (by omega)]; exact rc,by rw [← fun_at]; exact r'⟩,h4⟩
 | e=>exact Good.no h
end Go.Rn
namespace Go.Rn
section
def RelC0 (_:CT0) (_:Nat→RV):Prop:=True
theorem getC0_ok:GetOk RV CT0 getC0 RelC0 0:=fun _ _ _ _ _ _ _ h=>Good.no h
theorem updC0_ok:UpdOk RV CT0 updC0 RelC0 0:=fun _ _ _ _ _ _ _ _ h=>Good.no h
theorem emC0_ok:RelC0 emC0 (fun _=>.un):=trivial
def RelC1 (t:CT1) (f:Nat→RV):Prop:=RelS RV CT0 RelC0 t f
theorem getC1_ok:GetOk RV CT1 getC1 RelC1 1:=getS_ok getC0_ok
theorem updC1_ok:UpdOk RV CT1 updC1 RelC1 1:=updS_ok updC0_ok
theorem emC1_ok:RelC1 emC1 (fun _=>.un):=⟨_,_,_,_,rfl,emC0_ok,emC0_ok,emC0_ok,emC0_ok⟩
def RelC2 (t:CT2) (f:Nat→RV):Prop:=RelS RV CT1 RelC1 t f
theorem getC2_ok:GetOk RV CT2 getC2 RelC2 5:=getS_ok getC1_ok
theorem updC2_ok:UpdOk RV CT2 updC2 RelC2 5:=updS_ok updC1_ok
theorem emC2_ok:RelC2 emC2 (fun _=>.un):=⟨_,_,_,_,rfl,emC1_ok,emC1_ok,emC1_ok,emC1_ok⟩
def RelC3 (t:CT3) (f:Nat→RV):Prop:=RelS RV CT2 RelC2 t f
theorem getC3_ok:GetOk RV CT3 getC3 RelC3 21:=getS_ok getC2_ok
theorem updC3_ok:UpdOk RV CT3 updC3 RelC3 21:=updS_ok updC2_ok
theorem emC3_ok:RelC3 emC3 (fun _=>.un):=⟨_,_,_,_,rfl,emC2_ok,emC2_ok,emC2_ok,emC2_ok⟩
def RelC4 (t:CT4) (f:Nat→RV):Prop:=RelS RV CT3 RelC3 t f
theorem getC4_ok:GetOk RV CT4 getC4 RelC4 85:=getS_ok getC3_ok
theorem updC4_ok:UpdOk RV CT4 updC4 RelC4 85:=updS_ok updC3_ok
theorem emC4_ok:RelC4 emC4 (fun _=>.un):=⟨_,_,_,_,rfl,emC3_ok,emC3_ok,emC3_ok,emC3_ok⟩
def RelC5 (t:CT5) (f:Nat→RV):Prop:=RelS RV CT4 RelC4 t f
theorem getC5_ok:GetOk RV CT5 getC5 RelC5 341:=getS_ok getC4_ok
theorem updC5_ok:UpdOk RV CT5 updC5 RelC5 341:=updS_ok updC4_ok
theorem emC5_ok:RelC5 emC5 (fun _=>.un):=⟨_,_,_,_,rfl,emC4_ok,emC4_ok,emC4_ok,emC4_ok⟩
def RelC6 (t:CT6) (f:Nat→RV):Prop:=RelS RV CT5 RelC5 t f
theorem getC6_ok:GetOk RV CT6 getC6 RelC6 1365:=getS_ok getC5_ok
theorem updC6_ok:UpdOk RV CT6 updC6 RelC6 1365:=updS_ok updC5_ok
theorem emC6_ok:RelC6 emC6 (fun _=>.un):=⟨_,_,_,_,rfl,emC5_ok,emC5_ok,emC5_ok,emC5_ok⟩
def RelC7 (t:CT7) (f:Nat→RV):Prop:=RelS RV CT6 RelC6 t f
theorem getC7_ok:GetOk RV CT7 getC7 RelC7 5461:=getS_ok getC6_ok
theorem updC7_ok:UpdOk RV CT7 updC7 RelC7 5461:=updS_ok updC6_ok
theorem emC7_ok:RelC7 emC7 (fun _=>.un):=⟨_,_,_,_,rfl,emC6_ok,emC6_ok,emC6_ok,emC6_ok⟩
def RelC8 (t:CT8) (f:Nat→RV):Prop:=RelS RV CT7 RelC7 t f
theorem getC8_ok:GetOk RV CT8 getC8 RelC8 21845:=getS_ok getC7_ok
theorem updC8_ok:UpdOk RV CT8 updC8 RelC8 21845:=updS_ok updC7_ok
theorem emC8_ok:RelC8 emC8 (fun _=>.un):=⟨_,_,_,_,rfl,emC7_ok,emC7_ok,emC7_ok,emC7_ok⟩
def RelC9 (t:CT9) (f:Nat→RV):Prop:=RelS RV CT8 RelC8 t f
theorem getC9_ok:GetOk RV CT9 getC9 RelC9 87381:=getS_ok getC8_ok
theorem updC9_ok:UpdOk RV CT9 updC9 RelC9 87381:=updS_ok updC8_ok
theorem emC9_ok:RelC9 emC9 (fun _=>.un):=⟨_,_,_,_,rfl,emC8_ok,emC8_ok,emC8_ok,emC8_ok⟩
def RelH0 (_:HT0) (_:Nat→B3):Prop:=True
theorem getH0_ok:GetOk B3 HT0 getH0 RelH0 0:=fun _ _ _ _ _ _ _ h=>Good.no h
theorem updH0_ok:UpdOk B3 HT0 updH0 RelH0 0:=fun _ _ _ _ _ _ _ _ h=>Good.no h
theorem emH0_ok:RelH0 emH0 (fun _=>noB):=trivial
def RelH1 (t:HT1) (f:Nat→B3):Prop:=RelS B3 HT0 RelH0 t f
theorem getH1_ok:GetOk B3 HT1 getH1 RelH1 1:=getS_ok getH0_ok
theorem updH1_ok:UpdOk B3 HT1 updH1 RelH1 1:=updS_ok updH0_ok
theorem emH1_ok:RelH1 emH1 (fun _=>noB):=⟨_,_,_,_,rfl,emH0_ok,emH0_ok,emH0_ok,emH0_ok⟩
def RelH2 (t:HT2) (f:Nat→B3):Prop:=RelS B3 HT1 RelH1 t f
theorem getH2_ok:GetOk B3 HT2 getH2 RelH2 5:=getS_ok getH1_ok
theorem updH2_ok:UpdOk B3 HT2 updH2 RelH2 5:=updS_ok updH1_ok
theorem emH2_ok:RelH2 emH2 (fun _=>noB):=⟨_,_,_,_,rfl,emH1_ok,emH1_ok,emH1_ok,emH1_ok⟩
def RelH3 (t:HT3) (f:Nat→B3):Prop:=RelS B3 HT2 RelH2 t f
theorem getH3_ok:GetOk B3 HT3 getH3 RelH3 21:=getS_ok getH2_ok
theorem updH3_ok:UpdOk B3 HT3 updH3 RelH3 21:=updS_ok updH2_ok
theorem emH3_ok:RelH3 emH3 (fun _=>noB):=⟨_,_,_,_,rfl,emH2_ok,emH2_ok,emH2_ok,emH2_ok⟩
def RelH4 (t:HT4) (f:Nat→B3):Prop:=RelS B3 HT3 RelH3 t f
theorem getH4_ok:GetOk B3 HT4 getH4 RelH4 85:=getS_ok getH3_ok
theorem updH4_ok:UpdOk B3 HT4 updH4 RelH4 85:=updS_ok updH3_ok
theorem emH4_ok:RelH4 emH4 (fun _=>noB):=⟨_,_,_,_,rfl,emH3_ok,emH3_ok,emH3_ok,emH3_ok⟩
def RelH5 (t:HT5) (f:Nat→B3):Prop:=RelS B3 HT4 RelH4 t f
theorem getH5_ok:GetOk B3 HT5 getH5 RelH5 341:=getS_ok getH4_ok
theorem updH5_ok:UpdOk B3 HT5 updH5 RelH5 341:=updS_ok updH4_ok
theorem emH5_ok:RelH5 emH5 (fun _=>noB):=⟨_,_,_,_,rfl,emH4_ok,emH4_ok,emH4_ok,emH4_ok⟩
def RelH6 (t:HT6) (f:Nat→B3):Prop:=RelS B3 HT5 RelH5 t f
theorem getH6_ok:GetOk B3 HT6 getH6 RelH6 1365:=getS_ok getH5_ok
theorem updH6_ok:UpdOk B3 HT6 updH6 RelH6 1365:=updS_ok updH5_ok
theorem emH6_ok:RelH6 emH6 (fun _=>noB):=⟨_,_,_,_,rfl,emH5_ok,emH5_ok,emH5_ok,emH5_ok⟩
def RelH7 (t:HT7) (f:Nat→B3):Prop:=RelS B3 HT6 RelH6 t f
theorem getH7_ok:GetOk B3 HT7 getH7 RelH7 5461:=getS_ok getH6_ok
theorem updH7_ok:UpdOk B3 HT7 updH7 RelH7 5461:=updS_ok updH6_ok
theorem emH7_ok:RelH7 emH7 (fun _=>noB):=⟨_,_,_,_,rfl,emH6_ok,emH6_ok,emH6_ok,emH6_ok⟩
def RelH8 (t:HT8) (f:Nat→B3):Prop:=RelS B3 HT7 RelH7 t f
theorem getH8_ok:GetOk B3 HT8 getH8 RelH8 21845:=getS_ok getH7_ok
theorem updH8_ok:UpdOk B3 HT8 updH8 RelH8 21845:=updS_ok updH7_ok
theorem emH8_ok:RelH8 emH8 (fun _=>noB):=⟨_,_,_,_,rfl,emH7_ok,emH7_ok,emH7_ok,emH7_ok⟩
def RelH9 (t:HT9) (f:Nat→B3):Prop:=RelS B3 HT8 RelH8 t f
theorem getH9_ok:GetOk B3 HT9 getH9 RelH9 87381:=getS_ok getH8_ok
theorem updH9_ok:UpdOk B3 HT9 updH9 RelH9 87381:=updS_ok updH8_ok
theorem emH9_ok:RelH9 emH9 (fun _=>noB):=⟨_,_,_,_,rfl,emH8_ok,emH8_ok,emH8_ok,emH8_ok⟩
def RelH10 (t:HT10) (f:Nat→B3):Prop:=RelS B3 HT9 RelH9 t f
theorem getH10_ok:GetOk B3 HT10 getH10 RelH10 349525:=getS_ok getH9_ok
theorem updH10_ok:UpdOk B3 HT10 updH10 RelH10 349525:=updS_ok updH9_ok
theorem emH10_ok:RelH10 emH10 (fun _=>noB):=⟨_,_,_,_,rfl,emH9_ok,emH9_ok,emH9_ok,emH9_ok⟩
end
attribute [local irreducible] HT10 CT9 RelC9 RelH10
/-! cells -/
def CRel (c3:C3) (c:CT):Prop:=RelC9 c3 fun k=>cg c k
theorem cst_at {c:CT} {x:RV} {k:Nat} (hk:k < 87381) (j:Nat):cg (cst c x k) j=if j=k then x else cg c j:=by
 by_cases h:j=k
 ·rw [if_pos h,h]
  exact get_set_in .un c x (k + 1) (by omega) (by omega)
 ·rw [if_neg h]
  rcases get_set (.un:RV) c x (k + 1) (j + 1) with ⟨h1,_⟩ | ⟨_,h1⟩
  ·omega
  ·exact h1
theorem cget_ok {c3:C3} {c:CT} {o:Nat} {k:RV→A} (r:CRel c3 c) (h:Good (cget c3 o k)):Good (k (cg c o)):=(getC9_ok _ o c3 (fun k=>cg c k) k (path_ok 12 o) r h).2
theorem cupd_ok {c3:C3} {c:CT} {o:Nat} {u:RV→(RV→A)→A} {k:C3→A} (r:CRel c3 c) (h:Good (cupd c3 o u k)) :
  o < 87381∧∃ g,Good (u (cg c o) g)∧∀ x,Good (g x)→∃ c3',CRel c3' (cst c x o)∧Good (k c3'):=by
 obtain ⟨h1,g,h2,h3⟩:=updC9_ok _ o c3 (fun k=>cg c k) u k (path_ok 12 o) r h
 refine ⟨h1,g,h2,fun x hx=>?_⟩
 obtain ⟨t',r',h4⟩:=h3 x hx
 refine ⟨t',?_,h4⟩
 show RelC9 t' fun j=>cg (cst c x o) j
 rw [show (fun j=>cg (cst c x o) j)=fun j=>if j=o then x else cg c j from funext (cst_at h1)]
 exact r'
theorem ce3_ok:CRel ce3 ce:=emC9_ok
/-! blocks -/
def BRel (b3:B3):RB→Prop
 | .no=>b3=noB
 | .bk c z=>(z ≠ MAPZ∧∃ c3,b3=bkB c3 z∧CRel c3 c) ∨ (z=MAPZ∧∃ c3,b3=mpB c3∧CRel c3 c)
def HRel (h3:H3) (h:HT):Prop:=∃ f,RelH10 h3 f∧∀ b,BRel (f b) (hg h b)
theorem he3_ok:HRel he3 he:=⟨_,emH10_ok,fun _=>rfl⟩
theorem hst_at {h:HT} {x:RB} {k:Nat} (hk:k < 349525) (j:Nat):hg (hst h x k) j=if j=k then x else hg h j:=by
 by_cases e:j=k
 ·rw [if_pos e,e]
  exact get_set_in .no h x (k + 1) (by omega) (by omega)
 ·rw [if_neg e]
  rcases get_set (.no:RB) h x (k + 1) (j + 1) with ⟨h1,_⟩ | ⟨_,h1⟩
  ·omega
  ·exact h1
theorem hget_ok {h3:H3} {h:HT} {b:Nat} {k:B3→A} (r:HRel h3 h) (e:Good (hget h3 b k)):∃ b3,BRel b3 (hg h b)∧b < 349525∧Good (k b3):=by
 obtain ⟨f,r1,r2⟩:=r
 obtain ⟨h1,h2⟩:=getH10_ok _ b h3 f k (path_ok 12 b) r1 e
 exact ⟨f b,r2 b,h1,h2⟩
theorem bkNo {b3:B3} {rb:RB} {k:C3→Nat→A} (r:BRel b3 rb) (h:Good (b3 .no noM k)):∃ c z c3,rb=.bk c z∧CRel c3 c∧Good (k c3 z)∧z ≠ MAPZ:=by
 cases rb with
 | no=>have:b3=noB:=r; subst this; exact Good.no h
 | bk c z=>
  rcases r with ⟨hz,c3,rfl,rc⟩ | ⟨_,c3,rfl,_⟩
  ·exact ⟨c,z,c3,rfl,rc,h,hz⟩
  ·exact Good.no h
theorem bkMp {b3:B3} {rb:RB} {k:C3→A} (r:BRel b3 rb) (h:Good (b3 .no k (fun _ _=>.no))):∃ c c3,rb=.bk c MAPZ∧CRel c3 c∧Good (k c3):=by
 cases rb with
 | no=>have:b3=noB:=r; subst this; exact Good.no h
 | bk c z=>
  rcases r with ⟨_,c3,rfl,_⟩ | ⟨rfl,c3,rfl,rc⟩
  ·exact Good.no h
  ·exact ⟨c,c3,rfl,rc,h⟩
theorem gK_bk {α:Type} {d:α} {c:CT} {z:Nat} {k:CT→Nat→α} (hz:z ≠ MAPZ):gK d (.bk c z) k=k c z:=by
 have h:Nat.beq z MAPZ=false:=by
  cases hq:Nat.beq z MAPZ with
  | false=>rfl
  | true=>exact absurd (Nat.eq_of_beq_eq_true hq) hz
 show bf (Nat.beq z MAPZ) d (k c z)=_
 rw [h]; rfl
theorem bf_t {α:Type} (y n:α):bf true y n=y:=rfl
theorem hgetB {h3:H3} {h:HT} {b:Nat} {k:C3→Nat→A} (r:HRel h3 h) (e:Good (hget h3 b fun bk=>bk .no noM k)):∃ c z c3,hg h b=.bk c z∧CRel c3 c∧b < 349525∧Good (k c3 z)∧z ≠ MAPZ:=by
 obtain ⟨b3,r1,h0,h1⟩:=hget_ok r e
 obtain ⟨c,z,c3,h2,h3,h4,hz⟩:=bkNo r1 h1
 exact ⟨c,z,c3,h2,h3,h0,h4,hz⟩
theorem hupd_ok {h3:H3} {h:HT} {b:Nat} {u:B3→(B3→A)→A} {k:H3→A} (r:HRel h3 h) (e:Good (hupd h3 b u k)) :
  b < 349525∧∃ b3 g,BRel b3 (hg h b)∧Good (u b3 g)∧∀ x rb,BRel x rb→Good (g x)→∃ h3',HRel h3' (hst h rb b)∧Good (k h3'):=by
 obtain ⟨f,r1,r2⟩:=r
 obtain ⟨h1,g,h2,h3⟩:=updH10_ok _ b h3 f u k (path_ok 12 b) r1 e
 refine ⟨h1,f b,g,r2 b,h2,fun x rb hx hg'=>?_⟩
 obtain ⟨t',r',h4⟩:=h3 x hg'
 refine ⟨t',⟨_,r',fun j=>?_⟩,h4⟩
 rw [hst_at h1]
 by_cases hj:j=b
 ·rw [if_pos hj,if_pos hj]; exact hx
 ·rw [if_neg hj,if_neg hj]; exact r2 j
/-! frames -/
def FR (t3:F3) (t:FT):Prop:=∃ f,t3=mkF f∧∀ k,k < 576→f k=T.get .un t (k + 1)
theorem f0_ok:FR f0 te:=⟨fun _=>.un,rfl,fun _ _=>rfl⟩
def GK (g:G3) (k:Nat):Prop:=∀ f c,Good (g (mkF f) c)→Good (c (f k))
def SK (s:S3) (k:Nat):Prop:=∀ f v c,Good (s (mkF f) v c)→k < 576∧∃ f',(∀ j,j < 576→f' j=if j=k then v else f j)∧Good (c (mkF f'))
noncomputable def up (f:Nat→RV) (k:Nat) (v:RV):Nat→RV:=fun j=>if j=k then v else f j
theorem gs00_ok:GK gs00 0:=fun _ _ h=>h
theorem ss00_ok:SK ss00 0:=fun f v _ h=>⟨by omega,up f 0 v,fun _ _=>rfl,h⟩
theorem gs01_ok:GK gs01 1:=fun _ _ h=>h
theorem ss01_ok:SK ss01 1:=fun f v _ h=>⟨by omega,up f 1 v,fun _ _=>rfl,h⟩
theorem gs02_ok:GK gs02 2:=fun _ _ h=>h
theorem ss02_ok:SK ss02 2:=fun f v _ h=>⟨by omega,up f 2 v,fun _ _=>rfl,h⟩
theorem gs03_ok:GK gs03 3:=fun _ _ h=>h
theorem ss03_ok:SK ss03 3:=fun f v _ h=>⟨by omega,up f 3 v,fun _ _=>rfl,h⟩
theorem gs04_ok:GK gs04 4:=fun _ _ h=>h
theorem ss04_ok:SK ss04 4:=fun f v _ h=>⟨by omega,up f 4 v,fun _ _=>rfl,h⟩
theorem gs05_ok:GK gs05 5:=fun _ _ h=>h
theorem ss05_ok:SK ss05 5:=fun f v _ h=>⟨by omega,up f 5 v,fun _ _=>rfl,h⟩
theorem gs06_ok:GK gs06 6:=fun _ _ h=>h
theorem ss06_ok:SK ss06 6:=fun f v _ h=>⟨by omega,up f 6 v,fun _ _=>rfl,h⟩
theorem gs07_ok:GK gs07 7:=fun _ _ h=>h
theorem ss07_ok:SK ss07 7:=fun f v _ h=>⟨by omega,up f 7 v,fun _ _=>rfl,h⟩
theorem gs10_ok:GK gs10 8:=fun _ _ h=>h
theorem ss10_ok:SK ss10 8:=fun f v _ h=>⟨by omega,up f 8 v,fun _ _=>rfl,h⟩
theorem gs11_ok:GK gs11 9:=fun _ _ h=>h
theorem ss11_ok:SK ss11 9:=fun f v _ h=>⟨by omega,up f 9 v,fun _ _=>rfl,h⟩
theorem gs12_ok:GK gs12 10:=fun _ _ h=>h
theorem ss12_ok:SK ss12 10:=fun f v _ h=>⟨by omega,up f 10 v,fun _ _=>rfl,h⟩
theorem gs13_ok:GK gs13 11:=fun _ _ h=>h
theorem ss13_ok:SK ss13 11:=fun f v _ h=>⟨by omega,up f 11 v,fun _ _=>rfl,h⟩
theorem gs14_ok:GK gs14 12:=fun _ _ h=>h
theorem ss14_ok:SK ss14 12:=fun f v _ h=>⟨by omega,up f 12 v,fun _ _=>rfl,h⟩
theorem gs15_ok:GK gs15 13:=fun _ _ h=>h
theorem ss15_ok:SK ss15 13:=fun f v _ h=>⟨by omega,up f 13 v,fun _ _=>rfl,h⟩
theorem gs16_ok:GK gs16 14:=fun _ _ h=>h
theorem ss16_ok:SK ss16 14:=fun f v _ h=>⟨by omega,up f 14 v,fun _ _=>rfl,h⟩
theorem gs17_ok:GK gs17 15:=fun _ _ h=>h
theorem ss17_ok:SK ss17 15:=fun f v _ h=>⟨by omega,up f 15 v,fun _ _=>rfl,h⟩
theorem gs20_ok:GK gs20 16:=fun _ _ h=>h
theorem ss20_ok:SK ss20 16:=fun f v _ h=>⟨by omega,up f 16 v,fun _ _=>rfl,h⟩
theorem gs21_ok:GK gs21 17:=fun _ _ h=>h
theorem ss21_ok:SK ss21 17:=fun f v _ h=>⟨by omega,up f 17 v,fun _ _=>rfl,h⟩
theorem gs22_ok:GK gs22 18:=fun _ _ h=>h
theorem ss22_ok:SK ss22 18:=fun f v _ h=>⟨by omega,up f 18 v,fun _ _=>rfl,h⟩
theorem gs23_ok:GK gs23 19:=fun _ _ h=>h
theorem ss23_ok:SK ss23 19:=fun f v _ h=>⟨by omega,up f 19 v,fun _ _=>rfl,h⟩
theorem gs24_ok:GK gs24 20:=fun _ _ h=>h
theorem ss24_ok:SK ss24 20:=fun f v _ h=>⟨by omega,up f 20 v,fun _ _=>rfl,h⟩
theorem gs25_ok:GK gs25 21:=fun _ _ h=>h
theorem ss25_ok:SK ss25 21:=fun f v _ h=>⟨by omega,up f 21 v,fun _ _=>rfl,h⟩
theorem gs26_ok:GK gs26 22:=fun _ _ h=>h
theorem ss26_ok:SK ss26 22:=fun f v _ h=>⟨by omega,up f 22 v,fun _ _=>rfl,h⟩
theorem gs27_ok:GK gs27 23:=fun _ _ h=>h
theorem ss27_ok:SK ss27 23:=fun f v _ h=>⟨by omega,up f 23 v,fun _ _=>rfl,h⟩
theorem gs30_ok:GK gs30 24:=fun _ _ h=>h
theorem ss30_ok:SK ss30 24:=fun f v _ h=>⟨by omega,up f 24 v,fun _ _=>rfl,h⟩
theorem gs31_ok:GK gs31 25:=fun _ _ h=>h
theorem ss31_ok:SK ss31 25:=fun f v _ h=>⟨by omega,up f 25 v,fun _ _=>rfl,h⟩
theorem gs32_ok:GK gs32 26:=fun _ _ h=>h
theorem ss32_ok:SK ss32 26:=fun f v _ h=>⟨by omega,up f 26 v,fun _ _=>rfl,h⟩
theorem gs33_ok:GK gs33 27:=fun _ _ h=>h
theorem ss33_ok:SK ss33 27:=fun f v _ h=>⟨by omega,up f 27 v,fun _ _=>rfl,h⟩
theorem gs34_ok:GK gs34 28:=fun _ _ h=>h
theorem ss34_ok:SK ss34 28:=fun f v _ h=>⟨by omega,up f 28 v,fun _ _=>rfl,h⟩
theorem gs35_ok:GK gs35 29:=fun _ _ h=>h
theorem ss35_ok:SK ss35 29:=fun f v _ h=>⟨by omega,up f 29 v,fun _ _=>rfl,h⟩
theorem gs36_ok:GK gs36 30:=fun _ _ h=>h
theorem ss36_ok:SK ss36 30:=fun f v _ h=>⟨by omega,up f 30 v,fun _ _=>rfl,h⟩
theorem gs37_ok:GK gs37 31:=fun _ _ h=>h
theorem ss37_ok:SK ss37 31:=fun f v _ h=>⟨by omega,up f 31 v,fun _ _=>rfl,h⟩
theorem gs40_ok:GK gs40 32:=fun _ _ h=>h
theorem ss40_ok:SK ss40 32:=fun f v _ h=>⟨by omega,up f 32 v,fun _ _=>rfl,h⟩
theorem gs41_ok:GK gs41 33:=fun _ _ h=>h
theorem ss41_ok:SK ss41 33:=fun f v _ h=>⟨by omega,up f 33 v,fun _ _=>rfl,h⟩
theorem gs42_ok:GK gs42 34:=fun _ _ h=>h
theorem ss42_ok:SK ss42 34:=fun f v _ h=>⟨by omega,up f 34 v,fun _ _=>rfl,h⟩
theorem gs43_ok:GK gs43 35:=fun _ _ h=>h
theorem ss43_ok:SK ss43 35:=fun f v _ h=>⟨by omega,up f 35 v,fun _ _=>rfl,h⟩
theorem gs44_ok:GK gs44 36:=fun _ _ h=>h
theorem ss44_ok:SK ss44 36:=fun f v _ h=>⟨by omega,up f 36 v,fun _ _=>rfl,h⟩
theorem gs45_ok:GK gs45 37:=fun _ _ h=>h
theorem ss45_ok:SK ss45 37:=fun f v _ h=>⟨by omega,up f 37 v,fun _ _=>rfl,h⟩
theorem gs46_ok:GK gs46 38:=fun _ _ h=>h
theorem ss46_ok:SK ss46 38:=fun f v _ h=>⟨by omega,up f 38 v,fun _ _=>rfl,h⟩
theorem gs47_ok:GK gs47 39:=fun _ _ h=>h
theorem ss47_ok:SK ss47 39:=fun f v _ h=>⟨by omega,up f 39 v,fun _ _=>rfl,h⟩
theorem gs50_ok:GK gs50 40:=fun _ _ h=>h
theorem ss50_ok:SK ss50 40:=fun f v _ h=>⟨by omega,up f 40 v,fun _ _=>rfl,h⟩
theorem gs51_ok:GK gs51 41:=fun _ _ h=>h
theorem ss51_ok:SK ss51 41:=fun f v _ h=>⟨by omega,up f 41 v,fun _ _=>rfl,h⟩
theorem gs52_ok:GK gs52 42:=fun _ _ h=>h
theorem ss52_ok:SK ss52 42:=fun f v _ h=>⟨by omega,up f 42 v,fun _ _=>rfl,h⟩
theorem gs53_ok:GK gs53 43:=fun _ _ h=>h
theorem ss53_ok:SK ss53 43:=fun f v _ h=>⟨by omega,up f 43 v,fun _ _=>rfl,h⟩
theorem gs54_ok:GK gs54 44:=fun _ _ h=>h
theorem ss54_ok:SK ss54 44:=fun f v _ h=>⟨by omega,up f 44 v,fun _ _=>rfl,h⟩
theorem gs55_ok:GK gs55 45:=fun _ _ h=>h
theorem ss55_ok:SK ss55 45:=fun f v _ h=>⟨by omega,up f 45 v,fun _ _=>rfl,h⟩
theorem gs56_ok:GK gs56 46:=fun _ _ h=>h
theorem ss56_ok:SK ss56 46:=fun f v _ h=>⟨by omega,up f 46 v,fun _ _=>rfl,h⟩
theorem gs57_ok:GK gs57 47:=fun _ _ h=>h
theorem ss57_ok:SK ss57 47:=fun f v _ h=>⟨by omega,up f 47 v,fun _ _=>rfl,h⟩
theorem gs60_ok:GK gs60 48:=fun _ _ h=>h
theorem ss60_ok:SK ss60 48:=fun f v _ h=>⟨by omega,up f 48 v,fun _ _=>rfl,h⟩
theorem gs61_ok:GK gs61 49:=fun _ _ h=>h
theorem ss61_ok:SK ss61 49:=fun f v _ h=>⟨by omega,up f 49 v,fun _ _=>rfl,h⟩
theorem gs62_ok:GK gs62 50:=fun _ _ h=>h
theorem ss62_ok:SK ss62 50:=fun f v _ h=>⟨by omega,up f 50 v,fun _ _=>rfl,h⟩
theorem gs63_ok:GK gs63 51:=fun _ _ h=>h
theorem ss63_ok:SK ss63 51:=fun f v _ h=>⟨by omega,up f 51 v,fun _ _=>rfl,h⟩
theorem gs64_ok:GK gs64 52:=fun _ _ h=>h
theorem ss64_ok:SK ss64 52:=fun f v _ h=>⟨by omega,up f 52 v,fun _ _=>rfl,h⟩
theorem gs65_ok:GK gs65 53:=fun _ _ h=>h
theorem ss65_ok:SK ss65 53:=fun f v _ h=>⟨by omega,up f 53 v,fun _ _=>rfl,h⟩
theorem gs66_ok:GK gs66 54:=fun _ _ h=>h
theorem ss66_ok:SK ss66 54:=fun f v _ h=>⟨by omega,up f 54 v,fun _ _=>rfl,h⟩
theorem gs67_ok:GK gs67 55:=fun _ _ h=>h
theorem ss67_ok:SK ss67 55:=fun f v _ h=>⟨by omega,up f 55 v,fun _ _=>rfl,h⟩
theorem gs70_ok:GK gs70 56:=fun _ _ h=>h
theorem ss70_ok:SK ss70 56:=fun f v _ h=>⟨by omega,up f 56 v,fun _ _=>rfl,h⟩
theorem gs71_ok:GK gs71 57:=fun _ _ h=>h
theorem ss71_ok:SK ss71 57:=fun f v _ h=>⟨by omega,up f 57 v,fun _ _=>rfl,h⟩
theorem gs72_ok:GK gs72 58:=fun _ _ h=>h
theorem ss72_ok:SK ss72 58:=fun f v _ h=>⟨by omega,up f 58 v,fun _ _=>rfl,h⟩
theorem gs73_ok:GK gs73 59:=fun _ _ h=>h
theorem ss73_ok:SK ss73 59:=fun f v _ h=>⟨by omega,up f 59 v,fun _ _=>rfl,h⟩
theorem gs74_ok:GK gs74 60:=fun _ _ h=>h
theorem ss74_ok:SK ss74 60:=fun f v _ h=>⟨by omega,up f 60 v,fun _ _=>rfl,h⟩
theorem gs75_ok:GK gs75 61:=fun _ _ h=>h
theorem ss75_ok:SK ss75 61:=fun f v _ h=>⟨by omega,up f 61 v,fun _ _=>rfl,h⟩
theorem gs76_ok:GK gs76 62:=fun _ _ h=>h
theorem ss76_ok:SK ss76 62:=fun f v _ h=>⟨by omega,up f 62 v,fun _ _=>rfl,h⟩
theorem gs77_ok:GK gs77 63:=fun _ _ h=>h
theorem ss77_ok:SK ss77 63:=fun f v _ h=>⟨by omega,up f 63 v,fun _ _=>rfl,h⟩
theorem small_g:∀ i,i < 8→∀ j,j < 8→∃ g,getK (8 * i + j)=.mk g∧GK g (8 * i + j)
 | 0,_,0,_=>⟨_,rfl,gs00_ok⟩
 | 0,_,1,_=>⟨_,rfl,gs01_ok⟩
 | 0,_,2,_=>⟨_,rfl,gs02_ok⟩
 | 0,_,3,_=>⟨_,rfl,gs03_ok⟩
 | 0,_,4,_=>⟨_,rfl,gs04_ok⟩
 | 0,_,5,_=>⟨_,rfl,gs05_ok⟩
 | 0,_,6,_=>⟨_,rfl,gs06_ok⟩
 | 0,_,7,_=>⟨_,rfl,gs07_ok⟩
 | 1,_,0,_=>⟨_,rfl,gs10_ok⟩
 | 1,_,1,_=>⟨_,rfl,gs11_ok⟩
 | 1,_,2,_=>⟨_,rfl,gs12_ok⟩
 | 1,_,3,_=>⟨_,rfl,gs13_ok⟩
 | 1,_,4,_=>⟨_,rfl,gs14_ok⟩
 | 1,_,5,_=>⟨_,rfl,gs15_ok⟩
 | 1,_,6,_=>⟨_,rfl,gs16_ok⟩
 | 1,_,7,_=>⟨_,rfl,gs17_ok⟩
 | 2,_,0,_=>⟨_,rfl,gs20_ok⟩
 | 2,_,1,_=>⟨_,rfl,gs21_ok⟩
 | 2,_,2,_=>⟨_,rfl,gs22_ok⟩
 | 2,_,3,_=>⟨_,rfl,gs23_ok⟩
 | 2,_,4,_=>⟨_,rfl,gs24_ok⟩
 | 2,_,5,_=>⟨_,rfl,gs25_ok⟩
 | 2,_,6,_=>⟨_,rfl,gs26_ok⟩
 | 2,_,7,_=>⟨_,rfl,gs27_ok⟩
 | 3,_,0,_=>⟨_,rfl,gs30_ok⟩
 | 3,_,1,_=>⟨_,rfl,gs31_ok⟩
 | 3,_,2,_=>⟨_,rfl,gs32_ok⟩
 | 3,_,3,_=>⟨_,rfl,gs33_ok⟩
 | 3,_,4,_=>⟨_,rfl,gs34_ok⟩
 | 3,_,5,_=>⟨_,rfl,gs35_ok⟩
 | 3,_,6,_=>⟨_,rfl,gs36_ok⟩
 | 3,_,7,_=>⟨_,rfl,gs37_ok⟩
 | 4,_,0,_=>⟨_,rfl,gs40_ok⟩
 | 4,_,1,_=>⟨_,rfl,gs41_ok⟩
 | 4,_,2,_=>⟨_,rfl,gs42_ok⟩
 | 4,_,3,_=>⟨_,rfl,gs43_ok⟩
 | 4,_,4,_=>⟨_,rfl,gs44_ok⟩
 | 4,_,5,_=>⟨_,rfl,gs45_ok⟩
 | 4,_,6,_=>⟨_,rfl,gs46_ok⟩
 | 4,_,7,_=>⟨_,rfl,gs47_ok⟩
 | 5,_,0,_=>⟨_,rfl,gs50_ok⟩
 | 5,_,1,_=>⟨_,rfl,gs51_ok⟩
 | 5,_,2,_=>⟨_,rfl,gs52_ok⟩
 | 5,_,3,_=>⟨_,rfl,gs53_ok⟩
 | 5,_,4,_=>⟨_,rfl,gs54_ok⟩
 | 5,_,5,_=>⟨_,rfl,gs55_ok⟩
 | 5,_,6,_=>⟨_,rfl,gs56_ok⟩
 | 5,_,7,_=>⟨_,rfl,gs57_ok⟩
 | 6,_,0,_=>⟨_,rfl,gs60_ok⟩
 | 6,_,1,_=>⟨_,rfl,gs61_ok⟩
 | 6,_,2,_=>⟨_,rfl,gs62_ok⟩
 | 6,_,3,_=>⟨_,rfl,gs63_ok⟩
 | 6,_,4,_=>⟨_,rfl,gs64_ok⟩
 | 6,_,5,_=>⟨_,rfl,gs65_ok⟩
 | 6,_,6,_=>⟨_,rfl,gs66_ok⟩
 | 6,_,7,_=>⟨_,rfl,gs67_ok⟩
 | 7,_,0,_=>⟨_,rfl,gs70_ok⟩
 | 7,_,1,_=>⟨_,rfl,gs71_ok⟩
 | 7,_,2,_=>⟨_,rfl,gs72_ok⟩
 | 7,_,3,_=>⟨_,rfl,gs73_ok⟩
 | 7,_,4,_=>⟨_,rfl,gs74_ok⟩
 | 7,_,5,_=>⟨_,rfl,gs75_ok⟩
 | 7,_,6,_=>⟨_,rfl,gs76_ok⟩
 | 7,_,7,_=>⟨_,rfl,gs77_ok⟩
 | 0,_,j + 8,h=>absurd h (by omega)
 | 1,_,j + 8,h=>absurd h (by omega)
 | 2,_,j + 8,h=>absurd h (by omega)
 | 3,_,j + 8,h=>absurd h (by omega)
 | 4,_,j + 8,h=>absurd h (by omega)
 | 5,_,j + 8,h=>absurd h (by omega)
 | 6,_,j + 8,h=>absurd h (by omega)
 | 7,_,j + 8,h=>absurd h (by omega)
 | i + 8,h,_,_=>absurd h (by omega)
theorem small_s:∀ i,i < 8→∀ j,j < 8→∃ g,setK (8 * i + j)=.mk g∧SK g (8 * i + j)
 | 0,_,0,_=>⟨_,rfl,ss00_ok⟩
 | 0,_,1,_=>⟨_,rfl,ss01_ok⟩
 | 0,_,2,_=>⟨_,rfl,ss02_ok⟩
 | 0,_,3,_=>⟨_,rfl,ss03_ok⟩
 | 0,_,4,_=>⟨_,rfl,ss04_ok⟩
 | 0,_,5,_=>⟨_,rfl,ss05_ok⟩
 | 0,_,6,_=>⟨_,rfl,ss06_ok⟩
 | 0,_,7,_=>⟨_,rfl,ss07_ok⟩
 | 1,_,0,_=>⟨_,rfl,ss10_ok⟩
 | 1,_,1,_=>⟨_,rfl,ss11_ok⟩
 | 1,_,2,_=>⟨_,rfl,ss12_ok⟩
 | 1,_,3,_=>⟨_,rfl,ss13_ok⟩
 | 1,_,4,_=>⟨_,rfl,ss14_ok⟩
 | 1,_,5,_=>⟨_,rfl,ss15_ok⟩
 | 1,_,6,_=>⟨_,rfl,ss16_ok⟩
 | 1,_,7,_=>⟨_,rfl,ss17_ok⟩
 | 2,_,0,_=>⟨_,rfl,ss20_ok⟩
 | 2,_,1,_=>⟨_,rfl,ss21_ok⟩
 | 2,_,2,_=>⟨_,rfl,ss22_ok⟩
 | 2,_,3,_=>⟨_,rfl,ss23_ok⟩
 | 2,_,4,_=>⟨_,rfl,ss24_ok⟩
 | 2,_,5,_=>⟨_,rfl,ss25_ok⟩
 | 2,_,6,_=>⟨_,rfl,ss26_ok⟩
 | 2,_,7,_=>⟨_,rfl,ss27_ok⟩
 | 3,_,0,_=>⟨_,rfl,ss30_ok⟩
 | 3,_,1,_=>⟨_,rfl,ss31_ok⟩
 | 3,_,2,_=>⟨_,rfl,ss32_ok⟩
 | 3,_,3,_=>⟨_,rfl,ss33_ok⟩
 | 3,_,4,_=>⟨_,rfl,ss34_ok⟩
 | 3,_,5,_=>⟨_,rfl,ss35_ok⟩
 | 3,_,6,_=>⟨_,rfl,ss36_ok⟩
 | 3,_,7,_=>⟨_,rfl,ss37_ok⟩
 | 4,_,0,_=>⟨_,rfl,ss40_ok⟩
 | 4,_,1,_=>⟨_,rfl,ss41_ok⟩
 | 4,_,2,_=>⟨_,rfl,ss42_ok⟩
 | 4,_,3,_=>⟨_,rfl,ss43_ok⟩
 | 4,_,4,_=>⟨_,rfl,ss44_ok⟩
 | 4,_,5,_=>⟨_,rfl,ss45_ok⟩
 | 4,_,6,_=>⟨_,rfl,ss46_ok⟩
 | 4,_,7,_=>⟨_,rfl,ss47_ok⟩
 | 5,_,0,_=>⟨_,rfl,ss50_ok⟩
 | 5,_,1,_=>⟨_,rfl,ss51_ok⟩
 | 5,_,2,_=>⟨_,rfl,ss52_ok⟩
 | 5,_,3,_=>⟨_,rfl,ss53_ok⟩
 | 5,_,4,_=>⟨_,rfl,ss54_ok⟩
 | 5,_,5,_=>⟨_,rfl,ss55_ok⟩
 | 5,_,6,_=>⟨_,rfl,ss56_ok⟩
 | 5,_,7,_=>⟨_,rfl,ss57_ok⟩
 | 6,_,0,_=>⟨_,rfl,ss60_ok⟩
 | 6,_,1,_=>⟨_,rfl,ss61_ok⟩
 | 6,_,2,_=>⟨_,rfl,ss62_ok⟩
 | 6,_,3,_=>⟨_,rfl,ss63_ok⟩
 | 6,_,4,_=>⟨_,rfl,ss64_ok⟩
 | 6,_,5,_=>⟨_,rfl,ss65_ok⟩
 | 6,_,6,_=>⟨_,rfl,ss66_ok⟩
 | 6,_,7,_=>⟨_,rfl,ss67_ok⟩
 | 7,_,0,_=>⟨_,rfl,ss70_ok⟩
 | 7,_,1,_=>⟨_,rfl,ss71_ok⟩
 | 7,_,2,_=>⟨_,rfl,ss72_ok⟩
 | 7,_,3,_=>⟨_,rfl,ss73_ok⟩
 | 7,_,4,_=>⟨_,rfl,ss74_ok⟩
 | 7,_,5,_=>⟨_,rfl,ss75_ok⟩
 | 7,_,6,_=>⟨_,rfl,ss76_ok⟩
 | 7,_,7,_=>⟨_,rfl,ss77_ok⟩
 | 0,_,j + 8,h=>absurd h (by omega)
 | 1,_,j + 8,h=>absurd h (by omega)
 | 2,_,j + 8,h=>absurd h (by omega)
 | 3,_,j + 8,h=>absurd h (by omega)
 | 4,_,j + 8,h=>absurd h (by omega)
 | 5,_,j + 8,h=>absurd h (by omega)
 | 6,_,j + 8,h=>absurd h (by omega)
 | 7,_,j + 8,h=>absurd h (by omega)
 | i + 8,h,_,_=>absurd h (by omega)
theorem pN_ok:∀ i,i < 8→∀ f o (c:M8→A),Good ((nth8 (fun _ _=>.no) pN0 pN1 pN2 pN3 pN4 pN5 pN6 pN7 i) (mkN f o) c)→Good (c (mkM f (o + 64 * i)))
 | 0,_,_,_,_,h=>h
 | 1,_,_,_,_,h=>h
 | 2,_,_,_,_,h=>h
 | 3,_,_,_,_,h=>h
 | 4,_,_,_,_,h=>h
 | 5,_,_,_,_,h=>h
 | 6,_,_,_,_,h=>h
 | 7,_,_,_,_,h=>h
 | i + 8,h,_,_,_,_=>absurd h (by omega)
theorem pM_ok:∀ i,i < 8→∀ f o (c:L8→A),Good ((nth8 (fun _ _=>.no) pM0 pM1 pM2 pM3 pM4 pM5 pM6 pM7 i) (mkM f o) c)→Good (c (mkL f (o + 8 * i)))
 | 0,_,_,_,_,h=>h
 | 1,_,_,_,_,h=>h
 | 2,_,_,_,_,h=>h
 | 3,_,_,_,_,h=>h
 | 4,_,_,_,_,h=>h
 | 5,_,_,_,_,h=>h
 | 6,_,_,_,_,h=>h
 | 7,_,_,_,_,h=>h
 | i + 8,h,_,_,_,_=>absurd h (by omega)
theorem pL_ok:∀ i,i < 8→∀ f o (c:RV→A),Good ((nth8 (fun _ _=>.no) pL0 pL1 pL2 pL3 pL4 pL5 pL6 pL7 i) (mkL f o) c)→Good (c (f (o + i)))
 | 0,_,_,_,_,h=>h
 | 1,_,_,_,_,h=>h
 | 2,_,_,_,_,h=>h
 | 3,_,_,_,_,h=>h
 | 4,_,_,_,_,h=>h
 | 5,_,_,_,_,h=>h
 | 6,_,_,_,_,h=>h
 | 7,_,_,_,_,h=>h
 | i + 8,h,_,_,_,_=>absurd h (by omega)
end Go.Rn
namespace Go.Rn
attribute [local irreducible] HT10 CT9 RelC9 RelH10
theorem mkL_up (f:Nat→RV) (p:Nat) (v:RV) (o:Nat) (h:p < o ∨ o + 8≤p):mkL (up f p v) o=mkL f o:=by
 have e:∀ j,o≤j→j < o + 8→up f p v j=f j:=fun j h1 h2=>if_neg (by omega)
 unfold mkL
 rw [e o (by omega) (by omega),e (o+1) (by omega) (by omega),e (o+2) (by omega) (by omega),e (o+3) (by omega) (by omega),e (o+4) (by omega) (by omega),e (o+5) (by omega) (by omega),e (o+6) (by omega) (by omega),e (o+7) (by omega) (by omega)]
theorem mkM_up (f:Nat→RV) (p:Nat) (v:RV) (o:Nat) (h:p < o ∨ o + 64≤p):mkM (up f p v) o=mkM f o:=by
 unfold mkM
 rw [mkL_up f p v o (by omega),mkL_up f p v (o+8) (by omega),mkL_up f p v (o+16) (by omega),mkL_up f p v (o+24) (by omega),mkL_up f p v (o+32) (by omega),mkL_up f p v (o+40) (by omega),mkL_up f p v (o+48) (by omega),mkL_up f p v (o+56) (by omega)]
theorem up_at (f:Nat→RV) (p:Nat) (v:RV):up f p v p=v:=if_pos rfl
theorem up_ne (f:Nat→RV) (p:Nat) (v:RV) (j:Nat) (h:j ≠ p):up f p v j=f j:=if_neg h
theorem uL_ok:∀ i,i < 8→∀ f o v c,Good ((nth8 (fun _ _ _=>.no) uL0 uL1 uL2 uL3 uL4 uL5 uL6 uL7 i) (mkL f o) (fun _ c=>c v) c)→Good (c (mkL (up f (o + i) v) o))
 | 0,_,f,o,v,c,h=>by
  unfold mkL
  rw [(show up f (o + 0) v o=v from up_at f o v),up_ne f (o + 0) v (o+1) (by omega),up_ne f (o + 0) v (o+2) (by omega),up_ne f (o + 0) v (o+3) (by omega),up_ne f (o + 0) v (o+4) (by omega),up_ne f (o + 0) v (o+5) (by omega),up_ne f (o + 0) v (o+6) (by omega),up_ne f (o + 0) v (o+7) (by omega)]
  exact h
 | 1,_,f,o,v,c,h=>by
  unfold mkL
  rw [up_ne f (o + 1) v (o) (by omega),up_at f (o + 1) v,up_ne f (o + 1) v (o+2) (by omega),up_ne f (o + 1) v (o+3) (by omega),up_ne f (o + 1) v (o+4) (by omega),up_ne f (o + 1) v (o+5) (by omega),up_ne f (o + 1) v (o+6) (by omega),up_ne f (o + 1) v (o+7) (by omega)]
  exact h
 | 2,_,f,o,v,c,h=>by
  unfold mkL
  rw [up_ne f (o + 2) v (o) (by omega),up_ne f (o + 2) v (o+1) (by omega),up_at f (o + 2) v,up_ne f (o + 2) v (o+3) (by omega),up_ne f (o + 2) v (o+4) (by omega),up_ne f (o + 2) v (o+5) (by omega),up_ne f (o + 2) v (o+6) (by omega),up_ne f (o + 2) v (o+7) (by omega)]
  exact h
 | 3,_,f,o,v,c,h=>by
  unfold mkL
  rw [up_ne f (o + 3) v (o) (by omega),up_ne f (o + 3) v (o+1) (by omega),up_ne f (o + 3) v (o+2) (by omega),up_at f (o + 3) v,up_ne f (o + 3) v (o+4) (by omega),up_ne f (o + 3) v (o+5) (by omega),up_ne f (o + 3) v (o+6) (by omega),up_ne f (o + 3) v (o+7) (by omega)]
  exact h
 | 4,_,f,o,v,c,h=>by
  unfold mkL
  rw [up_ne f (o + 4) v (o) (by omega),up_ne f (o + 4) v (o+1) (by omega),up_ne f (o + 4) v (o+2) (by omega),up_ne f (o + 4) v (o+3) (by omega),up_at f (o + 4) v,up_ne f (o + 4) v (o+5) (by omega),up_ne f (o + 4) v (o+6) (by omega),up_ne f (o + 4) v (o+7) (by omega)]
  exact h
 | 5,_,f,o,v,c,h=>by
  unfold mkL
  rw [up_ne f (o + 5) v (o) (by omega),up_ne f (o + 5) v (o+1) (by omega),up_ne f (o + 5) v (o+2) (by omega),up_ne f (o + 5) v (o+3) (by omega),up_ne f (o + 5) v (o+4) (by omega),up_at f (o + 5) v,up_ne f (o + 5) v (o+6) (by omega),up_ne f (o + 5) v (o+7) (by omega)]
  exact h
 | 6,_,f,o,v,c,h=>by
  unfold mkL
  rw [up_ne f (o + 6) v (o) (by omega),up_ne f (o + 6) v (o+1) (by omega),up_ne f (o + 6) v (o+2) (by omega),up_ne f (o + 6) v (o+3) (by omega),up_ne f (o + 6) v (o+4) (by omega),up_ne f (o + 6) v (o+5) (by omega),up_at f (o + 6) v,up_ne f (o + 6) v (o+7) (by omega)]
  exact h
 | 7,_,f,o,v,c,h=>by
  unfold mkL
  rw [up_ne f (o + 7) v (o) (by omega),up_ne f (o + 7) v (o+1) (by omega),up_ne f (o + 7) v (o+2) (by omega),up_ne f (o + 7) v (o+3) (by omega),up_ne f (o + 7) v (o+4) (by omega),up_ne f (o + 7) v (o+5) (by omega),up_ne f (o + 7) v (o+6) (by omega),up_at f (o + 7) v]
  exact h
 | i + 8,h,_,_,_,_,_=>absurd h (by omega)
theorem uM_ok:∀ i,i < 8→∀ f o p v (u:L8→(L8→A)→A) c,o + 8 * i≤p→p < o + 8 * i + 8→Good ((nth8 (fun _ _ _=>.no) uM0 uM1 uM2 uM3 uM4 uM5 uM6 uM7 i) (mkM f o) u c)→∃ g,Good (u (mkL f (o + 8 * i)) g)∧(Good (g (mkL (up f p v) (o + 8 * i)))→Good (c (mkM (up f p v) o)))
 | 0,_,f,o,p,v,u,c,h1,h2,h=>⟨_,h,fun h3=>by
  unfold mkM
  rw [mkL_up f p v (o+8) (by omega),mkL_up f p v (o+16) (by omega),mkL_up f p v (o+24) (by omega),mkL_up f p v (o+32) (by omega),mkL_up f p v (o+40) (by omega),mkL_up f p v (o+48) (by omega),mkL_up f p v (o+56) (by omega)]
  exact h3⟩
 | 1,_,f,o,p,v,u,c,h1,h2,h=>⟨_,h,fun h3=>by
  unfold mkM
  rw [mkL_up f p v o (by omega),mkL_up f p v (o+16) (by omega),mkL_up f p v (o+24) (by omega),mkL_up f p v (o+32) (by omega),mkL_up f p v (o+40) (by omega),mkL_up f p v (o+48) (by omega),mkL_up f p v (o+56) (by omega)]
  exact h3⟩
 | 2,_,f,o,p,v,u,c,h1,h2,h=>⟨_,h,fun h3=>by
  unfold mkM
  rw [mkL_up f p v o (by omega),mkL_up f p v (o+8) (by omega),mkL_up f p v (o+24) (by omega),mkL_up f p v (o+32) (by omega),mkL_up f p v (o+40) (by omega),mkL_up f p v (o+48) (by omega),mkL_up f p v (o+56) (by omega)]
  exact h3⟩
 | 3,_,f,o,p,v,u,c,h1,h2,h=>⟨_,h,fun h3=>by
  unfold mkM
  rw [mkL_up f p v o (by omega),mkL_up f p v (o+8) (by omega),mkL_up f p v (o+16) (by omega),mkL_up f p v (o+32) (by omega),mkL_up f p v (o+40) (by omega),mkL_up f p v (o+48) (by omega),mkL_up f p v (o+56) (by omega)]
  exact h3⟩
 | 4,_,f,o,p,v,u,c,h1,h2,h=>⟨_,h,fun h3=>by
  unfold mkM
  rw [mkL_up f p v o (by omega),mkL_up f p v (o+8) (by omega),mkL_up f p v (o+16) (by omega),mkL_up f p v (o+24) (by omega),mkL_up f p v (o+40) (by omega),mkL_up f p v (o+48) (by omega),mkL_up f p v (o+56) (by omega)]
  exact h3⟩
 | 5,_,f,o,p,v,u,c,h1,h2,h=>⟨_,h,fun h3=>by
  unfold mkM
  rw [mkL_up f p v o (by omega),mkL_up f p v (o+8) (by omega),mkL_up f p v (o+16) (by omega),mkL_up f p v (o+24) (by omega),mkL_up f p v (o+32) (by omega),mkL_up f p v (o+48) (by omega),mkL_up f p v (o+56) (by omega)]
  exact h3⟩
 | 6,_,f,o,p,v,u,c,h1,h2,h=>⟨_,h,fun h3=>by
  unfold mkM
  rw [mkL_up f p v o (by omega),mkL_up f p v (o+8) (by omega),mkL_up f p v (o+16) (by omega),mkL_up f p v (o+24) (by omega),mkL_up f p v (o+32) (by omega),mkL_up f p v (o+40) (by omega),mkL_up f p v (o+56) (by omega)]
  exact h3⟩
 | 7,_,f,o,p,v,u,c,h1,h2,h=>⟨_,h,fun h3=>by
  unfold mkM
  rw [mkL_up f p v o (by omega),mkL_up f p v (o+8) (by omega),mkL_up f p v (o+16) (by omega),mkL_up f p v (o+24) (by omega),mkL_up f p v (o+32) (by omega),mkL_up f p v (o+40) (by omega),mkL_up f p v (o+48) (by omega)]
  exact h3⟩
 | i + 8,h,_,_,_,_,_,_,_,_,_=>absurd h (by omega)
theorem uN_ok:∀ i,i < 8→∀ f o p v (u:M8→(M8→A)→A) c,o + 64 * i≤p→p < o + 64 * i + 64→Good ((nth8 (fun _ _ _=>.no) uN0 uN1 uN2 uN3 uN4 uN5 uN6 uN7 i) (mkN f o) u c)→∃ g,Good (u (mkM f (o + 64 * i)) g)∧(Good (g (mkM (up f p v) (o + 64 * i)))→Good (c (mkN (up f p v) o)))
 | 0,_,f,o,p,v,u,c,h1,h2,h=>⟨_,h,fun h3=>by
  unfold mkN
  rw [mkM_up f p v (o+64) (by omega),mkM_up f p v (o+128) (by omega),mkM_up f p v (o+192) (by omega),mkM_up f p v (o+256) (by omega),mkM_up f p v (o+320) (by omega),mkM_up f p v (o+384) (by omega),mkM_up f p v (o+448) (by omega)]
  exact h3⟩
 | 1,_,f,o,p,v,u,c,h1,h2,h=>⟨_,h,fun h3=>by
  unfold mkN
  rw [mkM_up f p v o (by omega),mkM_up f p v (o+128) (by omega),mkM_up f p v (o+192) (by omega),mkM_up f p v (o+256) (by omega),mkM_up f p v (o+320) (by omega),mkM_up f p v (o+384) (by omega),mkM_up f p v (o+448) (by omega)]
  exact h3⟩
 | 2,_,f,o,p,v,u,c,h1,h2,h=>⟨_,h,fun h3=>by
  unfold mkN
  rw [mkM_up f p v o (by omega),mkM_up f p v (o+64) (by omega),mkM_up f p v (o+192) (by omega),mkM_up f p v (o+256) (by omega),mkM_up f p v (o+320) (by omega),mkM_up f p v (o+384) (by omega),mkM_up f p v (o+448) (by omega)]
  exact h3⟩
 | 3,_,f,o,p,v,u,c,h1,h2,h=>⟨_,h,fun h3=>by
  unfold mkN
  rw [mkM_up f p v o (by omega),mkM_up f p v (o+64) (by omega),mkM_up f p v (o+128) (by omega),mkM_up f p v (o+256) (by omega),mkM_up f p v (o+320) (by omega),mkM_up f p v (o+384) (by omega),mkM_up f p v (o+448) (by omega)]
  exact h3⟩
 | 4,_,f,o,p,v,u,c,h1,h2,h=>⟨_,h,fun h3=>by
  unfold mkN
  rw [mkM_up f p v o (by omega),mkM_up f p v (o+64) (by omega),mkM_up f p v (o+128) (by omega),mkM_up f p v (o+192) (by omega),mkM_up f p v (o+320) (by omega),mkM_up f p v (o+384) (by omega),mkM_up f p v (o+448) (by omega)]
  exact h3⟩
 | 5,_,f,o,p,v,u,c,h1,h2,h=>⟨_,h,fun h3=>by
  unfold mkN
  rw [mkM_up f p v o (by omega),mkM_up f p v (o+64) (by omega),mkM_up f p v (o+128) (by omega),mkM_up f p v (o+192) (by omega),mkM_up f p v (o+256) (by omega),mkM_up f p v (o+384) (by omega),mkM_up f p v (o+448) (by omega)]
  exact h3⟩
 | 6,_,f,o,p,v,u,c,h1,h2,h=>⟨_,h,fun h3=>by
  unfold mkN
  rw [mkM_up f p v o (by omega),mkM_up f p v (o+64) (by omega),mkM_up f p v (o+128) (by omega),mkM_up f p v (o+192) (by omega),mkM_up f p v (o+256) (by omega),mkM_up f p v (o+320) (by omega),mkM_up f p v (o+448) (by omega)]
  exact h3⟩
 | 7,_,f,o,p,v,u,c,h1,h2,h=>⟨_,h,fun h3=>by
  unfold mkN
  rw [mkM_up f p v o (by omega),mkM_up f p v (o+64) (by omega),mkM_up f p v (o+128) (by omega),mkM_up f p v (o+192) (by omega),mkM_up f p v (o+256) (by omega),mkM_up f p v (o+320) (by omega),mkM_up f p v (o+384) (by omega)]
  exact h3⟩
 | i + 8,h,_,_,_,_,_,_,_,_,_=>absurd h (by omega)
theorem big_k {k:Nat} (h1:¬ k < 64) (h2:k < 576):getK k=.mk (gBig ((nth8 (fun _ _=>.no) pN0 pN1 pN2 pN3 pN4 pN5 pN6 pN7) ((k - 64) / 64)) ((nth8 (fun _ _=>.no) pM0 pM1 pM2 pM3 pM4 pM5 pM6 pM7) ((k - 64) / 8 % 8)) ((nth8 (fun _ _=>.no) pL0 pL1 pL2 pL3 pL4 pL5 pL6 pL7) ((k - 64) % 8))):=by
 have e1:Nat.ble k 63=false:=by
  cases h:Nat.ble k 63 with
  | false=>rfl
  | true=>exact absurd (Nat.le_of_ble_eq_true h) (by omega)
 have e2:Nat.ble k 575=true:=Nat.ble_eq_true_of_le (by omega)
 unfold getK
 rw [e1,e2]
 rfl
theorem big_s {k:Nat} (h1:¬ k < 64) (h2:k < 576):setK k=.mk (sBig ((nth8 (fun _ _ _=>.no) uN0 uN1 uN2 uN3 uN4 uN5 uN6 uN7) ((k - 64) / 64)) ((nth8 (fun _ _ _=>.no) uM0 uM1 uM2 uM3 uM4 uM5 uM6 uM7) ((k - 64) / 8 % 8)) ((nth8 (fun _ _ _=>.no) uL0 uL1 uL2 uL3 uL4 uL5 uL6 uL7) ((k - 64) % 8))):=by
 have e1:Nat.ble k 63=false:=by
  cases h:Nat.ble k 63 with
  | false=>rfl
  | true=>exact absurd (Nat.le_of_ble_eq_true h) (by omega)
 have e2:Nat.ble k 575=true:=Nat.ble_eq_true_of_le (by omega)
 unfold setK
 rw [e1,e2]
 rfl
theorem far_k {k:Nat} (h2:¬ k < 576):getK k=.mk (fun _ _=>.no):=by
 have e1:Nat.ble k 63=false:=by
  cases h:Nat.ble k 63 with
  | false=>rfl
  | true=>exact absurd (Nat.le_of_ble_eq_true h) (by omega)
 have e2:Nat.ble k 575=false:=by
  cases h:Nat.ble k 575 with
  | false=>rfl
  | true=>exact absurd (Nat.le_of_ble_eq_true h) (by omega)
 unfold getK
 rw [e1,e2]
 rfl
theorem far_s {k:Nat} (h2:¬ k < 576):setK k=.mk (fun _ _ _=>.no):=by
 have e1:Nat.ble k 63=false:=by
  cases h:Nat.ble k 63 with
  | false=>rfl
  | true=>exact absurd (Nat.le_of_ble_eq_true h) (by omega)
 have e2:Nat.ble k 575=false:=by
  cases h:Nat.ble k 575 with
  | false=>rfl
  | true=>exact absurd (Nat.le_of_ble_eq_true h) (by omega)
 unfold setK
 rw [e1,e2]
 rfl
theorem getK_gk (k:Nat):∃ g,getK k=.mk g∧(GK g k ∨ ∀ t c,Good (g t c)→False):=by
 by_cases h1:k < 64
 ·obtain ⟨g,e,hg⟩:=small_g (k / 8) (by omega) (k % 8) (by omega)
  rw [show 8 * (k / 8) + k % 8=k by omega] at e hg
  exact ⟨g,e,.inl hg⟩
 ·by_cases h2:k < 576
  ·refine ⟨_,big_k h1 h2,.inl fun f c h=>?_⟩
   have h3:=pN_ok ((k - 64) / 64) (by omega) f 64 _ h
   have h4:=pM_ok ((k - 64) / 8 % 8) (by omega) f _ _ h3
   have h5:=pL_ok ((k - 64) % 8) (by omega) f _ _ h4
   rw [show 64 + 64 * ((k - 64) / 64) + 8 * ((k - 64) / 8 % 8) + (k - 64) % 8=k by omega] at h5
   exact h5
  ·exact ⟨_,far_k h2,.inr fun _ _ h=>Good.no h⟩
theorem setK_sk (k:Nat):∃ s,setK k=.mk s∧SK s k:=by
 by_cases h1:k < 64
 ·obtain ⟨g,e,hg⟩:=small_s (k / 8) (by omega) (k % 8) (by omega)
  rw [show 8 * (k / 8) + k % 8=k by omega] at e hg
  exact ⟨g,e,hg⟩
 ·by_cases h2:k < 576
  ·refine ⟨_,big_s h1 h2,fun f v c h=>⟨h2,up f k v,fun _ _=>rfl,?_⟩⟩
   obtain ⟨g1,h3,h4⟩:=uN_ok ((k - 64) / 64) (by omega) f 64 k v _ _ (by omega) (by omega) h
   obtain ⟨g2,h5,h6⟩:=uM_ok ((k - 64) / 8 % 8) (by omega) f _ k v _ _ (by omega) (by omega) h3
   have h7:=uL_ok ((k - 64) % 8) (by omega) f _ v _ h5
   rw [show 64 + 64 * ((k - 64) / 64) + 8 * ((k - 64) / 8 % 8) + (k - 64) % 8=k by omega] at h7
   have h8:=h4 (h6 h7)
   show Good (c (mkF (up f k v)))
   unfold mkF
   rw [mkL_up f k v 0 (by omega),mkL_up f k v 8 (by omega),mkL_up f k v 16 (by omega),mkL_up f k v 24 (by omega),mkL_up f k v 32 (by omega),mkL_up f k v 40 (by omega),mkL_up f k v 48 (by omega),mkL_up f k v 56 (by omega)]
   exact h8
  ·exact ⟨_,far_s h2,fun _ _ _ h=>Good.no h⟩
def GOk (g:G3) (e:FT→RV):Prop:=∀ t3 t c,FR t3 t→Good (g t3 c)→Good (c (e t))
def SOk (s:S3) (put:FT→RV→FT):Prop:=∀ t3 t v c,FR t3 t→Good (s t3 v c)→∃ t3',FR t3' (put t v)∧Good (c t3')
theorem getP_ok (p:Pa):∃ g,getK (Nat.sub (Pa.val p) 1)=.mk g∧GOk g fun t=>tg t p:=by
 obtain ⟨g,e,hg⟩:=getK_gk (p.val - 1)
 refine ⟨g,e,?_⟩
 rintro t3 t c ⟨f,rfl,hf⟩ h
 rcases hg with hg | hg
 ·have h1:=hg f c h
  have hp:=p.val_pos
  by_cases hk:p.val - 1 < 576
  ·rw [hf _ hk,show p.val - 1 + 1=p.val by omega] at h1
   show Good (c (T.getP .un t p))
   rw [getP_eq]
   exact h1
  ·rw [far_k hk] at e
   cases e
   exact Good.no h
 ·exact (hg _ _ h).elim
theorem FR.set {f:Nat→RV} {t t':FT} {k:Nat} {v:RV} (hf:∀ j,j < 576→f j=T.get .un t (j + 1)) (ht:∀ j,j < 576→T.get .un t' (j + 1)=if j=k then v else T.get .un t (j + 1)) {f':Nat→RV} (h:∀ j,j < 576→f' j=if j=k then v else f j):FR (mkF f') t':=
 ⟨f',rfl,fun j hj=>by rw [h j hj,ht j hj,hf j hj]⟩
theorem setP_ok (p:Pa):∃ s,setK (Nat.sub (Pa.val p) 1)=.mk s∧SOk s fun t v=>tst t v p:=by
 obtain ⟨s,e,hs⟩:=setK_sk (p.val - 1)
 refine ⟨s,e,?_⟩
 rintro t3 t v c ⟨f,rfl,hf⟩ h
 obtain ⟨hk,f',h1,h2⟩:=hs f v c h
 have hp:=p.val_pos
 refine ⟨_,FR.set hf (fun j hj=>?_) h1,h2⟩
 show T.get .un (T.setP .un t v p) (j + 1)=_
 rw [setP_get]
 by_cases q:j=p.val - 1
 ·rw [if_pos q,if_pos (by omega)]
 ·rw [if_neg q,if_neg (by omega)]
theorem setC_ok (i:Nat):∃ s,setK i=.mk s∧SOk s fun t v=>cst t v i:=by
 obtain ⟨s,e,hs⟩:=setK_sk i
 refine ⟨s,e,?_⟩
 rintro t3 t v c ⟨f,rfl,hf⟩ h
 obtain ⟨hk,f',h1,h2⟩:=hs f v c h
 exact ⟨_,FR.set hf (fun j hj=>cst_at (show i < 87381 by omega) j) h1,h2⟩
end Go.Rn
