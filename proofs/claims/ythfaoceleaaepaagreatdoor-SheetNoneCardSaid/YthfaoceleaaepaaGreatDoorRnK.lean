/-
  One text of a symbolic evaluator over the model, shown sound once for every program: no statement is claimed here.
-/
import Derived.Test.YthfaoceleaaepaaGreatDoorRnI
namespace Go.Rn
variable {ρ:Nat→Int} {m m':Mp} {P:Program}
section
variable {g fl n n' nt lim:Nat} {h h':HT} {t:FT} {a:Act} {o:Oper} {w:World} {v:RV} {ys:Ys} {cl:Cl'}
theorem eqGuard_run {op:BinOp} {ty:TypeId} {x y:Operand} {u v:Value} (h1:u ≠ .nilIface) (h2:∀ c,u ≠ .agg c) (w:World):(eqGuard op ty x y u v).run P w=.ok () w:=by
 unfold eqGuard
 cases op <;> (try rfl) <;> cases u <;> first | (exact absurd rfl h1) | (exact absurd rfl (h2 _)) | rfl
theorem eqGuard_const {op:BinOp} {ty:TypeId} {x y:Operand} {u v:Value} (h1:isC x=true ∨ isC y=true) (h2:∀ c,u ≠ .agg c) (w:World):(eqGuard op ty x y u v).run P w=.ok () w:=by
 unfold eqGuard
 cases op <;> (try rfl) <;> cases u <;> first
  | (exact absurd rfl (h2 _))
  | rfl
  | (cases v <;> first | rfl | (cases x <;> cases y <;> first | rfl | (simp [isC] at h1)))
theorem binV_shape {op:BinOp} {x y:RV} {u:Value} (hu:binV ys op x y ≠ .un) (hd:den ρ m x u):u ≠ .nilIface∧∀ c,u ≠ .agg c:=by
 cases x with
 | i k n=>obtain rfl:u=.int k n:=hd; exact ⟨by simp,by simp⟩
 | y k e=>obtain rfl:u=.int k (e.val ρ):=hd; exact ⟨by simp,by simp⟩
 | s l=>obtain ⟨rfl,_⟩:=hd; exact ⟨by simp,by simp⟩
 | _=>exact absurd rfl hu
def NilAs:Nat→Bool→Value→Prop
 | 0,true,v=>v=.pointer none
 | 0,false,v=>∃ p,v=.pointer (some p)
 | 1,true,v=>v=.slice none 0 0
 | 1,false,v=>∃ p l c,v=.slice (some p) l c
 | 2,true,v=>v=.nilFunc
 | 2,false,v=>∃ f x y,v=.func f x y
 | 3,true,v=>v=.nilIface
 | 3,false,v=>∃ t y,v=.iface t y
 | _,_,_=>False
theorem den_if_nil {f:Nat} {u:Value} (hf:33554432≤f) (hd:den ρ m (.fn f .nil) u):u=.nilIface:=by
 obtain ⟨cs,h1,rfl⟩:=hd
 have:=denC_nil.1 h1
 subst this
 exact fnV_nil hf
theorem den_if {f:Nat} {x:RV} {u:Value} (hf:33554432≤f) (hd:den ρ m (.fn f (.cons .nil (.cons x .nil))) u):∃ y,u=.iface (f - 33554432) y∧den ρ m x y:=by
 obtain ⟨cs,h1,rfl⟩:=hd
 obtain ⟨z,zs,rfl,hz,h2⟩:=denC_cons.1 h1
 obtain ⟨y,ys,rfl,hy,_⟩:=denC_cons.1 h2
 have hz:z=.tuple #[]:=hz
 subst hz
 exact ⟨y,fnV_if hf y ys,hy⟩
theorem NilAs.three {k:Nat} {b:Bool} (h:NilAs k b .nilIface):k=3:=by
 match k,b,h with
 | 0,true,h=>cases h
 | 0,false,⟨_,h⟩=>cases h
 | 1,true,h=>cases h
 | 1,false,⟨_,_,_,h⟩=>cases h
 | 2,true,h=>cases h
 | 2,false,⟨_,_,_,h⟩=>cases h
 | 3,_,_=>rfl
theorem isNil_ok {r:RV} {u:Value} {k:Nat} {b:Bool} (h:isNil r=some (k,b)) (hd:den ρ m r u):NilAs k b u:=by
 cases r with
 | np=>cases h; exact hd
 | p x y=>cases h; obtain ⟨B,O,Z,_,rfl⟩:=hd; exact ⟨_,rfl⟩
 | ns=>cases h; exact hd
 | sl x y z q=>cases h; obtain ⟨B,O,Z,_,_,rfl⟩:=hd; exact ⟨_,_,_,rfl⟩
 | su x y z q=>cases h; obtain ⟨B,O,Z,c,_,_,_,rfl⟩:=hd; exact ⟨_,_,_,rfl⟩
 | sx x y=>cases h; obtain ⟨B,O,Z,O',c,_,_,rfl⟩:=hd; exact ⟨_,_,_,rfl⟩
 | nf=>cases h; exact hd
 | fn f c=>
  have h:bf (Nat.ble 33554432 f) (gN none c (some (3,true)) fun x r=>gN none x (gN none r none fun _ q=>gN none q (some (3,false)) fun _ _=>none) fun _ _=>none) (some (2,false))=some (k,b):=h
  rcases bf_or h with ⟨hb,e⟩ | ⟨hb,e⟩
  ·have hb:=Nat.le_of_ble_eq_true hb
   rcases gN_ok e (by simp) with ⟨rfl,e1⟩ | ⟨x,r,rfl,e1⟩
   ·cases e1
    exact den_if_nil hb hd
   ·rcases gN_ok e1 (by simp) with ⟨rfl,e2⟩ | ⟨_,_,_,e2⟩
    ·rcases gN_ok e2 (by simp) with ⟨_,e3⟩ | ⟨y,q,rfl,e3⟩
     ·cases e3
     ·rcases gN_ok e3 (by simp) with ⟨rfl,e4⟩ | ⟨_,_,_,e4⟩
      ·cases e4
       obtain ⟨v,rfl,_⟩:=den_if hb hd
       exact ⟨_,_,rfl⟩
      ·cases e4
    ·cases e2
  ·cases e
   obtain ⟨cs,_,rfl⟩:=hd
   obtain ⟨a,b,c,e⟩:=fnV_func (f:=f) (by
    rcases Nat.lt_or_ge f 33554432 with q | q
    ·exact q
    ·rw [Nat.ble_eq_true_of_le q] at hb; cases hb) cs
   exact ⟨_,_,_,e⟩
 | _=>cases h
def KindTy (P:Program) (k:Nat) (ty:TypeId):Prop:=(k=0∧∃ e,P.underlying ty=some (.pointer e)) ∨ (k=1∧∃ e,P.underlying ty=some (.slice e)) ∨ (k=2∧∃ x y z,P.underlying ty=some (.func x y z)) ∨ (k=3∧∃ x,P.underlying ty=some (.interface x))
theorem run_equal {ty:TypeId} {x y:Value} {r:Bool} (w:World) (h:∀ d,(Op.equalIn (d + 1) ty x y).run P w=.ok r w):(Op.equal ty x y).run P w=.ok r w:=h 9999
theorem run_nilEq {k:Nat} {ty:TypeId} (hk:KindTy P k ty) {x y:Value} {a b:Bool} (hx:NilAs k a x) (hy:NilAs k b y) (hab:a=true ∨ b=true) (w:World) :
  (Op.equal ty x y).run P w=.ok (a && b) w:=by
 refine run_equal w fun d=>?_
 rcases hk with ⟨rfl,e,hu⟩ | ⟨rfl,e,hu⟩ | ⟨rfl,p,q,r,hu⟩ | ⟨rfl,e,hu⟩ <;> cases a <;> cases b
 all_goals first
  | (simp at hab; done)
  | skip
 ·obtain ⟨p,rfl⟩:=hx; obtain rfl:y=.pointer none:=hy
  simp [Op.equalIn,run_underlying hu]
 ·obtain ⟨p,rfl⟩:=hy; obtain rfl:x=.pointer none:=hx
  simp [Op.equalIn,run_underlying hu]
 ·obtain rfl:x=.pointer none:=hx; obtain rfl:y=.pointer none:=hy
  simp [Op.equalIn,run_underlying hu]
 ·obtain ⟨p,l,c,rfl⟩:=hx; obtain rfl:y=.slice none 0 0:=hy
  simp [Op.equalIn,run_underlying hu]
 ·obtain ⟨p,l,c,rfl⟩:=hy; obtain rfl:x=.slice none 0 0:=hx
  simp [Op.equalIn,run_underlying hu]
 ·obtain rfl:x=.slice none 0 0:=hx; obtain rfl:y=.slice none 0 0:=hy
  simp [Op.equalIn,run_underlying hu]
 ·obtain ⟨p,l,c,rfl⟩:=hx; obtain rfl:y=.nilFunc:=hy
  simp [Op.equalIn,run_underlying hu]
 ·obtain ⟨p,l,c,rfl⟩:=hy; obtain rfl:x=.nilFunc:=hx
  simp [Op.equalIn,run_underlying hu]
 ·obtain rfl:x=.nilFunc:=hx; obtain rfl:y=.nilFunc:=hy
  simp [Op.equalIn,run_underlying hu]
 ·obtain ⟨t,z,rfl⟩:=hx; obtain rfl:y=.nilIface:=hy
  simp [Op.equalIn,run_underlying hu]
 ·obtain ⟨t,z,rfl⟩:=hy; obtain rfl:x=.nilIface:=hx
  simp [Op.equalIn,run_underlying hu]
 ·obtain rfl:x=.nilIface:=hx; obtain rfl:y=.nilIface:=hy
  simp [Op.equalIn,run_underlying hu]
def Eqs (v:Value):Prop:=(∃ b,v=.bool b) ∨ (∃ p,v=.pointer p) ∨ (∃ p l c,v=.slice p l c) ∨ v=.nilFunc ∨ (∃ f x y,v=.func f x y) ∨ v=.nilIface ∨ ∃ t y,v=.iface t y
theorem NilAs.eqs {k:Nat} {b:Bool} {v:Value} (h:NilAs k b v):Eqs v:=by
 match k,b,h with
 | 0,true,h=>exact .inr (.inl ⟨_,h⟩)
 | 0,false,⟨p,h⟩=>exact .inr (.inl ⟨_,h⟩)
 | 1,true,h=>exact .inr (.inr (.inl ⟨_,_,_,h⟩))
 | 1,false,⟨p,l,c,h⟩=>exact .inr (.inr (.inl ⟨_,_,_,h⟩))
 | 2,true,h=>exact .inr (.inr (.inr (.inl h)))
 | 2,false,⟨p,l,c,h⟩=>exact .inr (.inr (.inr (.inr (.inl ⟨_,_,_,h⟩))))
 | 3,true,h=>exact .inr (.inr (.inr (.inr (.inr (.inl h)))))
 | 3,false,⟨_,_,h⟩=>exact .inr (.inr (.inr (.inr (.inr (.inr ⟨_,_,h⟩)))))
theorem run_eql {ty:TypeId} {x y:Value} {r:Bool} {w:World} (hx:Eqs x) (hy:Eqs y) (h:(Op.equal ty x y).run P w=.ok r w):(binOp .eql ty x y).run P w=.ok (.bool r) w∧(binOp .neq ty x y).run P w=.ok (.bool (!r)) w:=by
 have e1:binOp .eql ty x y=(do pure (.bool (← Op.equal ty x y)):Sem Value):=by
  rcases hx with ⟨_,rfl⟩ | ⟨_,rfl⟩ | ⟨_,_,_,rfl⟩ | rfl | ⟨_,_,_,rfl⟩ | rfl | ⟨_,_,rfl⟩ <;> rcases hy with ⟨_,rfl⟩ | ⟨_,rfl⟩ | ⟨_,_,_,rfl⟩ | rfl | ⟨_,_,_,rfl⟩ | rfl | ⟨_,_,rfl⟩ <;> rfl
 have e2:binOp .neq ty x y=(do pure (.bool (!(← Op.equal ty x y))):Sem Value):=by
  rcases hx with ⟨_,rfl⟩ | ⟨_,rfl⟩ | ⟨_,_,_,rfl⟩ | rfl | ⟨_,_,_,rfl⟩ | rfl | ⟨_,_,rfl⟩ <;> rcases hy with ⟨_,rfl⟩ | ⟨_,rfl⟩ | ⟨_,_,_,rfl⟩ | rfl | ⟨_,_,_,rfl⟩ | rfl | ⟨_,_,rfl⟩ <;> rfl
 rw [e1,e2]
 simp [h]
theorem run_boolEq {ty:TypeId} (hu:P.underlying ty=some .bool) (p q:Bool) (w:World):(Op.equal ty (.bool p) (.bool q)).run P w=.ok (p == q) w:=
 run_equal w fun d=>by simp [Op.equalIn,run_underlying hu]
theorem cellEq {k:Nat} {a b:RV} {u v:Value} {x:Bool} {ty:TypeId} {d:Nat} (hy:YsOk ρ ys) (e:eqCell ys k a b=.b x) (ha:den ρ m a u) (hb:den ρ m b v) (w:World)
  (hk:(k=0∧P.underlying ty=some .bool) ∨ (k=1∧∃ j,P.underlying ty=some (.int j))):(Op.equalIn (d + 1) ty u v).run P w=.ok x w:=by
 rcases hk with ⟨rfl,hu⟩ | ⟨rfl,j,hu⟩
 ·have e1:gB RV.un a (fun p=>gB RV.un b fun q=>mkB (eqB p q))=.b x:=e
  obtain ⟨p,rfl,e2⟩:=gB_ok e1 (by simp)
  obtain ⟨q,rfl,e3⟩:=gB_ok e2 (by simp)
  obtain rfl:u=.bool p:=ha
  obtain rfl:v=.bool q:=hb
  rw [mkB_eq,eqB_eq] at e3
  cases e3
  simp [Op.equalIn,run_underlying hu]
 ·have e1:gY RV.un a (fun _ _=>gY RV.un b fun _ _=>binV ys .eql a b)=.b x:=e
  obtain ⟨k1,z1,h1,e2⟩:=gY_ok e1 (by simp)
  obtain ⟨k2,z2,h2,e3⟩:=gY_ok e2 (by simp)
  have hua:∃ k n,u=.int k n:=by
   rcases h1 with rfl | ⟨z,rfl,_⟩
   ·exact ⟨_,_,ha⟩
   ·exact ⟨_,_,ha⟩
  have hub:∃ k n,v=.int k n:=by
   rcases h2 with rfl | ⟨z,rfl,_⟩
   ·exact ⟨_,_,hb⟩
   ·exact ⟨_,_,hb⟩
  obtain ⟨k3,n3,rfl⟩:=hua
  obtain ⟨k4,n4,rfl⟩:=hub
  obtain ⟨z,hz,hdz⟩:=binV_ok (P:=P) (ty:=ty) hy ha hb e3 (by simp) w
  obtain rfl:z=.bool x:=hdz
  have e4:binOp .eql ty (.int k3 n3) (.int k4 n4)=if k3 ≠ k4 then stuck "BinOp: operands of different kinds" else Op.intCmp .eql n3 n4:=rfl
  rw [e4] at hz
  by_cases hkk:k3=k4
  ·rw [if_neg (by simp [hkk])] at hz
   have e5:(Op.intCmp .eql n3 n4).run P w=.ok (.bool (n3 == n4)) w:=rfl
   rw [e5] at hz
   cases hz
   simp [Op.equalIn,run_underlying hu,hkk]
  ·rw [if_pos hkk] at hz
   cases hz
theorem fieldsEq {d : Nat} (hy : YsOk ρ ys) (w : World) {xs ys' : Array Value} : ∀ {l : List Field} {i : Nat} {ks : List Nat} {c q : RV} {us vs : List Value} {r : Bool}, kindsF P l i = some ks → denC ρ m c us → denC ρ m q vs →
    (∀ (j : Nat) (u : Value), us[j]? = some u → xs[i + j]? = some u) → (∀ (j : Nat) (u : Value), vs[j]? = some u → ys'[i + j]? = some u) → eqCh ys ks c q = .b r →
    ((forIn l ((none : Option Bool), ()) fun f __s =>
            if f.name = "_" then pure (ForInStep.yield (none, ()))
            else do
              let __do_lift ← part f.type xs f.offset
              let __do_lift_1 ← part f.type ys' f.offset
              let __do_lift ← Op.equalIn (d + 1) f.type __do_lift __do_lift_1
              if __do_lift = false then pure (ForInStep.done (some false, ())) else pure (ForInStep.yield (none, ()))) : Sem (Option Bool × Unit)).run P w = .ok (if r then (none, ()) else (some false, ())) w
  | [], i, ks, c, q, us, vs, r, hk, _, _, _, _, e => by
    cases hk
    have : r = true := by cases e; rfl
    subst this
    simp
  | f :: l, i, ks, c, q, us, vs, r, hk, hc, hq, hx, hv, e => by
    unfold kindsF at hk
    split at hk
    case isFalse => cases hk
    rename_i hf
    obtain ⟨ho, hn⟩ := hf
    have key : ∃ k ks', ks = k :: ks' ∧ kindsF P l (i + 1) = some ks' ∧ aggOf P f.type = some false ∧ ((k = 0 ∧ P.underlying f.type = some .bool) ∨ (k = 1 ∧ ∃ j, P.underlying f.type = some (.int j))) := by
      split at hk
      · rename_i hu
        obtain ⟨ks', h1, rfl⟩ := Option.map_eq_some_iff.1 hk
        exact ⟨_, _, rfl, h1, by unfold aggOf; rw [hu]; rfl, .inl ⟨rfl, hu⟩⟩
      · rename_i j hu
        obtain ⟨ks', h1, rfl⟩ := Option.map_eq_some_iff.1 hk
        exact ⟨_, _, rfl, h1, by unfold aggOf; rw [hu]; rfl, .inr ⟨rfl, j, hu⟩⟩
      · cases hk
    obtain ⟨k, ks', rfl, hk', hag, hty⟩ := key
    have e1 : gN RV.un c RV.un (fun a r => gN RV.un q RV.un fun b q => gB RV.un (eqCell ys k a b) fun x => bf x (eqCh ys ks' r q) (.b false)) = .b r := e
    rcases gN_ok e1 (by simp) with ⟨_, h⟩ | ⟨a, cr, rfl, e2⟩
    · cases h
    rcases gN_ok e2 (by simp) with ⟨_, h⟩ | ⟨b, qr, rfl, e3⟩
    · cases h
    obtain ⟨x, hcell, e4⟩ := gB_ok e3 (by simp)
    obtain ⟨u, us', rfl, hu1, hu2⟩ := denC_cons.1 hc
    obtain ⟨v, vs', rfl, hv1, hv2⟩ := denC_cons.1 hq
    have hx0 := hx 0 u rfl
    have hv0 := hv 0 v rfl
    rw [Nat.add_zero] at hx0 hv0
    have hcl := cellEq (d := d) hy hcell hu1 hv1 w hty
    have px : (part f.type xs f.offset).run P w = .ok u w := by simp [part, aggOf_run hag, ho, hx0]
    have pv : (part f.type ys' f.offset).run P w = .ok v w := by simp [part, aggOf_run hag, ho, hv0]
    rcases bf_or e4 with ⟨rfl, e5⟩ | ⟨rfl, e5⟩
    · have ih := fieldsEq (d := d) hy w hk' hu2 hv2 (fun j u hj => by have := hx (j + 1) u (by simpa using hj); rwa [show i + (j + 1) = i + 1 + j by omega] at this) (fun j u hj => by have := hv (j + 1) u (by simpa using hj); rwa [show i + (j + 1) = i + 1 + j by omega] at this) e5
      rw [List.forIn_cons]
      simp only [hn, if_false]
      simp [px, pv, hcl]
      exact ih
    · cases e5
      rw [List.forIn_cons]
      simp only [hn, if_false]
      simp [px, pv, hcl]
theorem equalSe' {d:Nat} {ty:TypeId} {fs:Array Field} {ks:List Nat} {c q:RV} {us vs:List Value} {r:Bool} (hy:YsOk ρ ys) (hu:P.underlying ty=some (.struct fs)) (hs:P.stoodInHeld ty=false) (hk:kindsF P fs.toList 0=some ks) (hc:denC ρ m c us) (hq:denC ρ m q vs) (e:eqCh ys ks c q=.b r) (w:World) :
  (Op.equalIn (d + 1 + 1) ty (.agg us.toArray) (.agg vs.toArray)).run P w=.ok r w:=by
 have h1:=fieldsEq (P:=P) (d:=d) (xs:=us.toArray) (ys':=vs.toArray) hy w hk hc hq (fun j u hj=>by simpa using hj) (fun j u hj=>by simpa using hj) e
 rw [Op.equalIn]
 simp [run_underlying hu,hs]
 rw [← Array.forIn_toList,h1]
 cases r <;> simp
theorem equalSe {ty:TypeId} {fs:Array Field} {ks:List Nat} {c q:RV} {us vs:List Value} {r:Bool} (hy:YsOk ρ ys) (hu:P.underlying ty=some (.struct fs)) (hs:P.stoodInHeld ty=false) (hk:kindsF P fs.toList 0=some ks) (hc:denC ρ m c us) (hq:denC ρ m q vs) (e:eqCh ys ks c q=.b r) (w:World) :
  (Op.equal ty (.agg us.toArray) (.agg vs.toArray)).run P w=.ok r w:=equalSe' (d:=9998) hy hu hs hk hc hq e w
theorem elemsEq {d : Nat} (hy : YsOk ρ ys) (w : World) {el : TypeId} {k : Nat} (hk : kindA P el = some k) {xs ys' : Array Value} : ∀ {n i : Nat} {c q : RV} {us vs : List Value} {r : Bool}, denC ρ m c us → denC ρ m q vs →
    (∀ (j : Nat) (u : Value), us[j]? = some u → xs[i + j]? = some u) → (∀ (j : Nat) (u : Value), vs[j]? = some u → ys'[i + j]? = some u) → eqCh ys (List.replicate n k) c q = .b r →
    ((forIn (List.range' i n) ((none : Option Bool), ()) fun i __s => do
              let __do_lift ← part el xs (i * 1)
              let __do_lift_1 ← part el ys' (i * 1)
              let __do_lift ← Op.equalIn (d + 1) el __do_lift __do_lift_1
              if __do_lift = false then pure (ForInStep.done (some false, ())) else pure (ForInStep.yield (none, ()))) : Sem (Option Bool × Unit)).run P w = .ok (if r then (none, ()) else (some false, ())) w
  | 0, i, c, q, us, vs, r, _, _, _, _, e => by
    have : r = true := by cases e; rfl
    subst this
    simp
  | n + 1, i, c, q, us, vs, r, hc, hq, hx, hv, e => by
    have key : aggOf P el = some false ∧ ((k = 0 ∧ P.underlying el = some .bool) ∨ (k = 1 ∧ ∃ j, P.underlying el = some (.int j))) := by
      unfold kindA at hk
      split at hk
      · rename_i hu
        cases hk
        exact ⟨by unfold aggOf; rw [hu]; rfl, .inl ⟨rfl, hu⟩⟩
      · rename_i j hu
        cases hk
        exact ⟨by unfold aggOf; rw [hu]; rfl, .inr ⟨rfl, j, hu⟩⟩
      · cases hk
    obtain ⟨hag, hty⟩ := key
    have e1 : gN RV.un c RV.un (fun a r => gN RV.un q RV.un fun b q => gB RV.un (eqCell ys k a b) fun x => bf x (eqCh ys (List.replicate n k) r q) (.b false)) = .b r := e
    rcases gN_ok e1 (by simp) with ⟨_, h⟩ | ⟨a, cr, rfl, e2⟩
    · cases h
    rcases gN_ok e2 (by simp) with ⟨_, h⟩ | ⟨b, qr, rfl, e3⟩
    · cases h
    obtain ⟨x, hcell, e4⟩ := gB_ok e3 (by simp)
    obtain ⟨u, us', rfl, hu1, hu2⟩ := denC_cons.1 hc
    obtain ⟨v, vs', rfl, hv1, hv2⟩ := denC_cons.1 hq
    have hx0 := hx 0 u rfl
    have hv0 := hv 0 v rfl
    rw [Nat.add_zero] at hx0 hv0
    have hcl := cellEq (d := d) hy hcell hu1 hv1 w hty
    have px : (part el xs (i * 1)).run P w = .ok u w := by simp [part, aggOf_run hag, hx0]
    have pv : (part el ys' (i * 1)).run P w = .ok v w := by simp [part, aggOf_run hag, hv0]
    rw [List.range'_succ, List.forIn_cons]
    rcases bf_or e4 with ⟨rfl, e5⟩ | ⟨rfl, e5⟩
    · have ih := elemsEq (d := d) hy w hk hu2 hv2 (fun j u hj => by have := hx (j + 1) u (by simpa using hj); rwa [show i + (j + 1) = i + 1 + j by omega] at this) (fun j u hj => by have := hv (j + 1) u (by simpa using hj); rwa [show i + (j + 1) = i + 1 + j by omega] at this) e5
      rw [Sem.run_bind, Sem.run_bind, px]
      simp only [Result.andThen, Sem.run_bind, pv, hcl]
      exact ih
    · cases e5
      rw [Sem.run_bind, Sem.run_bind, px]
      simp only [Result.andThen, Sem.run_bind, pv, hcl]
      rfl
theorem equalAe {ty el:TypeId} {len k:Nat} {c q:RV} {us vs:List Value} {r:Bool} (hy:YsOk ρ ys) (hu:P.underlying ty=some (.array len el)) (hs:szOf P el=some 1) (hk:kindA P el=some k) (hc:denC ρ m c us) (hq:denC ρ m q vs) (e:eqCh ys (List.replicate len k) c q=.b r) (w:World) :
  (Op.equal ty (.agg us.toArray) (.agg vs.toArray)).run P w=.ok r w:=by
 have h1:=elemsEq (P:=P) (d:=9998) (i:=0) (xs:=us.toArray) (ys':=vs.toArray) hy w hk hc hq (fun j u hj=>by simpa using hj) (fun j u hj=>by simpa using hj) e
 show (Op.equalIn (9998 + 1 + 1) ty (.agg us.toArray) (.agg vs.toArray)).run P w=.ok r w
 rw [Op.equalIn]
 simp only [Sem.run_bind,run_underlying hu,Result.andThen,szOf_run hs]
 rw [Std.Legacy.Range.forIn_eq_forIn_range']
 have e0:((len - 0 + 1 - 1) / 1)=len:=by simp
 simp only [Std.Legacy.Range.size,e0,Bool.not_eq_true',h1]
 cases r <;> rfl
/-! interfaces -/
theorem if_den {t:Nat} {x:RV} {y:Value} (hd:den ρ m x y):den ρ m (.fn (33554432 + t) (.cons .nil (.cons x .nil))) (.iface t y):=by
 refine ⟨[.tuple #[],y],denC_cons.2 ⟨_,_,rfl,rfl,denC_cons.2 ⟨_,_,rfl,hd,denC_nil.2 rfl⟩⟩,?_⟩
 rw [fnV_if (by omega)]
 rw [Nat.add_sub_cancel_left]
theorem gIf_ok {l:List Nat} {x:RV} {z:SR} {k:Nat→RV→SR} (e:gIf (.bad l) x z k=.ok v h' n'):∃ f,33554432≤f∧((x=.fn f .nil∧z=.ok v h' n') ∨ ∃ y,x=.fn f (.cons .nil (.cons y .nil))∧k f y=.ok v h' n'):=by
 unfold gIf at e
 obtain ⟨f,c,rfl,e2⟩:=gF_ok e (by simp)
 obtain ⟨hb,e3⟩:=bf_ok e2 (by simp)
 refine ⟨f,ble_ok hb,?_⟩
 rcases gN_ok e3 (by simp) with ⟨rfl,e4⟩ | ⟨y,r,rfl,e4⟩
 ·exact .inl ⟨rfl,e4⟩
 ·rcases gN_ok e4 (by simp) with ⟨rfl,e5⟩ | ⟨_,_,_,e5⟩
  ·rcases gN_ok e5 (by simp) with ⟨_,e6⟩ | ⟨y,q,rfl,e6⟩
   ·cases e6
   ·rcases gN_ok e6 (by simp) with ⟨rfl,e7⟩ | ⟨_,_,_,e7⟩
    ·exact .inr ⟨y,rfl,e7⟩
    ·cases e7
  ·cases e5
theorem run_mkIf {ty:TypeId} {d:TypeDesc} (hu:P.underlying ty=some d) (hni:∀ x,d ≠ .interface x) (x:Value) (w:World):(Instr.makeInterface ty x).run P w=.ok (.iface ty x) w:=by
 unfold Instr.makeInterface
 cases d with
 | interface y=>exact absurd rfl (hni y)
 | _=>simp [run_underlying hu]
theorem run_ta_yes {ty xt:TypeId} {d:TypeDesc} {two:Bool} (hu:P.underlying ty=some d) (hni:∀ x,d ≠ .interface x) (x:Value) (w:World):(Instr.typeAssert (.iface ty x) xt ty two).run P w=.ok (if two then .tuple #[x,.bool true] else x) w:=by
 unfold Instr.typeAssert
 cases d with
 | interface y=>exact absurd rfl (hni y)
 | _=>simp [run_underlying hu]
theorem run_ta_no {ty t2 xt:TypeId} {d:TypeDesc} {z:Value} (hu:P.underlying ty=some d) (hni:∀ x,d ≠ .interface x) (hz:zeroOf P ty=some z) (ht:t2 ≠ ty) (x:Value) (w:World):(Instr.typeAssert (.iface t2 x) xt ty true).run P w=.ok (.tuple #[z,.bool false]) w:=by
 unfold Instr.typeAssert
 cases d with
 | interface y=>exact absurd rfl (hni y)
 | _=>simp [run_underlying hu,ht,zeroOf_run hz]
theorem run_ta_nil {ty xt:TypeId} {d:TypeDesc} {z:Value} (hu:P.underlying ty=some d) (hni:∀ x,d ≠ .interface x) (hz:zeroOf P ty=some z) (w:World):(Instr.typeAssert .nilIface xt ty true).run P w=.ok (.tuple #[z,.bool false]) w:=by
 unfold Instr.typeAssert
 cases d with
 | interface y=>exact absurd rfl (hni y)
 | _=>simp [run_underlying hu,zeroOf_run hz]
variable (F:Fr P ρ m nt t a.tmps) (s:Sim P ρ m g h w)
include F s
theorem ok_bn (hy:YsOk ρ ys) {op:BinOp} {ty yt:TypeId} {x y:Operand} (ho:o.op=.binOp op ty x y yt) (e:step (.bn op (opd P nt x) (opd P nt y)) ys cl fl lim t h n=.ok v h' n'):Ok1 P ρ g fl o a m w h n v h' n':=by
 have e1:okV (binV ys op (ev t (opd P nt x)) (ev t (opd P nt y))) h n 17=.ok v h' n':=e
 obtain ⟨hu,rfl,rfl,rfl⟩:=okV_ok e1
 have hx:ev t (opd P nt x) ≠ .un:=fun q=>hu (by rw [q]; rfl)
 have hy2:ev t (opd P nt y) ≠ .un:=fun q=>hu (by
  rw [q]
  cases ev t (opd P nt x) <;> rfl)
 have dx:=opd_ok F x hx
 have dy:=opd_ok F y hy2
 obtain ⟨z,hz,hdz⟩:=binV_ok (P:=P) (ty:=ty) hy dx dy rfl hu w
 obtain ⟨s1,s2⟩:=binV_shape hu dx
 exact Ok1.quiet (u:=z) s (by simp [execOp,ho,eqGuard_run s1 s2,hz]) hdz
theorem ok_bq {op:BinOp} {neg:Bool} (hop:(op=.eql∧neg=false) ∨ (op=.neq∧neg=true)) {ty yt:TypeId} {x y:Operand} (ho:o.op=.binOp op ty x y yt) (hu:P.underlying ty=some .bool) (e:step (.bq neg (opd P nt x) (opd P nt y)) ys cl fl lim t h n=.ok v h' n') :
  Ok1 P ρ g fl o a m w h n v h' n':=by
 have e1:gB (SR.bad [18]) (ev t (opd P nt x)) (fun a=>gB (SR.bad [19]) (ev t (opd P nt y)) fun b=>SR.ok (mkB (eqB neg (notB (eqB a b)))) h n)=.ok v h' n':=e
 obtain ⟨p,hp,e2⟩:=gB_ok e1 (by simp)
 obtain ⟨q,hq,e3⟩:=gB_ok e2 (by simp)
 cases e3
 have dx:=opd_ok F x (by rw [hp]; simp)
 have dy:=opd_ok F y (by rw [hq]; simp)
 rw [hp] at dx
 rw [hq] at dy
 have dx':a.eval x=.bool p:=dx
 have dy':a.eval y=.bool q:=dy
 rw [mkB_eq,eqB_eq,notB_eq,eqB_eq]
 rcases hop with ⟨rfl,rfl⟩ | ⟨rfl,rfl⟩
 ·obtain ⟨r1,r2⟩:=run_eql (.inl ⟨p,rfl⟩) (.inl ⟨q,rfl⟩) (run_boolEq hu p q w)
  exact Ok1.quiet (u:=.bool (p == q)) s (by simp [execOp,ho,dx',dy',eqGuard_run,r1]) (by cases p <;> cases q <;> rfl)
 ·obtain ⟨r1,r2⟩:=run_eql (.inl ⟨p,rfl⟩) (.inl ⟨q,rfl⟩) (run_boolEq hu p q w)
  exact Ok1.quiet (u:=.bool (!(p == q))) s (by simp [execOp,ho,dx',dy',eqGuard_run,r2]) (by cases p <;> cases q <;> rfl)
theorem ok_nq {op:BinOp} {neg:Bool} {kd:Nat} (hop:(op=.eql∧neg=false) ∨ (op=.neq∧neg=true)) {ty yt:TypeId} {x y:Operand} (ho:o.op=.binOp op ty x y yt) (hk:KindTy P kd ty) (hc3:kd=3→isC x=true ∨ isC y=true) (e:step (.nq kd neg (opd P nt x) (opd P nt y)) ys cl fl lim t h n=.ok v h' n') :
  Ok1 P ρ g fl o a m w h n v h' n':=by
 have e1:gO (SR.bad [20]) (isNil (ev t (opd P nt x))) (fun a=>gO (SR.bad [21]) (isNil (ev t (opd P nt y))) fun b=>
  bf (bf (Nat.beq a.1 kd) (Nat.beq b.1 kd) false) (bf b.2 (SR.ok (mkB (eqB neg (notB a.2))) h n) (bf a.2 (SR.ok (mkB neg) h n) (SR.bad [22]))) (SR.bad [23]))=.ok v h' n':=e
 obtain ⟨⟨ka,p⟩,hp,e2⟩:=gO_ok e1 (by simp)
 obtain ⟨⟨kb,q⟩,hq,e3⟩:=gO_ok e2 (by simp)
 obtain ⟨hkk,e4⟩:=bf_ok e3 (by simp)
 obtain ⟨h1,h2⟩:=bf_ok hkk (by simp)
 obtain rfl:=beq_ok h1
 obtain rfl:=beq_ok h2
 have dx:=isNil_ok hp (opd_ok F x (fun q=>by rw [q] at hp; cases hp))
 have dy:=isNil_ok hq (opd_ok F y (fun q=>by rw [q] at hq; cases hq))
 have gx:∀ (u:Value),(eqGuard op ty x y (a.eval x) u).run P w=.ok () w:=fun u=>by
  have h2:∀ c,a.eval x ≠ .agg c:=by
   intro c e; rw [e] at dx
   rcases dx.eqs with ⟨_,q⟩ | ⟨_,q⟩ | ⟨_,_,_,q⟩ | q | ⟨_,_,_,q⟩ | q | ⟨_,_,q⟩ <;> cases q
  by_cases h3:kb=3
  ·exact eqGuard_const (hc3 h3) h2 w
  ·exact eqGuard_run (fun e=>h3 (by rw [e] at dx; exact dx.three)) h2 w
 have key:(p=true ∨ q=true)∧v=.b (if neg then !(p && q) else (p && q))∧h'=h∧n'=n:=by
  rcases bf_or e4 with ⟨hq2,e5⟩ | ⟨hq2,e5⟩
  ·dsimp only at hq2
   subst hq2
   cases e5
   rw [mkB_eq,eqB_eq,notB_eq]
   exact ⟨.inr rfl,by cases neg <;> cases p <;> rfl,rfl,rfl⟩
  ·dsimp only at hq2
   subst hq2
   obtain ⟨hp2,e6⟩:=bf_ok e5 (by simp)
   dsimp only at hp2
   subst hp2
   cases e6
   rw [mkB_eq]
   exact ⟨.inl rfl,by cases neg <;> rfl,rfl,rfl⟩
 obtain ⟨hab,rfl,rfl,rfl⟩:=key
 obtain ⟨r1,r2⟩:=run_eql dx.eqs dy.eqs (run_nilEq hk dx dy hab w)
 rcases hop with ⟨rfl,rfl⟩ | ⟨rfl,rfl⟩
 ·exact Ok1.quiet (u:=.bool (p && q)) s (by simp [execOp,ho,gx,r1]) rfl
 ·exact Ok1.quiet (u:=.bool (!(p && q))) s (by simp [execOp,ho,gx,r2]) rfl
omit F s in
theorem isIf_struct {l:List Field} {i:Nat} {ks:List Nat} (h:kindsF P l i=some ks):isIf ks=false:=by
 cases l with
 | nil=>cases h; rfl
 | cons f l=>
  unfold kindsF at h
  split at h
  ·split at h
   ·obtain ⟨_,_,rfl⟩:=Option.map_eq_some_iff.1 h; rfl
   ·obtain ⟨_,_,rfl⟩:=Option.map_eq_some_iff.1 h; rfl
   ·cases h
  ·cases h
omit F s in
theorem isIf_rep {el:TypeId} {len k:Nat} (h:kindA P el=some k):isIf (List.replicate len k)=false:=by
 unfold kindA at h
 split at h
 ·cases h; cases len <;> rfl
 ·cases h; cases len <;> rfl
 ·cases h
omit F s in
theorem ifP_ok {v r:RV} {k:Nat→RV→RV} (h:ifP v k=r) (hr:r ≠ .un):∃ f x,v=.fn f (.cons .nil (.cons x .nil))∧33554432≤f∧k f x=r:=by
 unfold ifP at h
 obtain ⟨f,c,rfl,h1⟩:=gF_ok h hr.symm
 obtain ⟨hb,h2⟩:=bf_ok h1 hr.symm
 rcases gN_ok h2 hr.symm with ⟨_,h3⟩ | ⟨u,q,rfl,h3⟩
 ·exact absurd h3.symm hr
 rcases gN_ok h3 hr.symm with ⟨rfl,h4⟩ | ⟨_,_,_,h4⟩
 case inr=>exact absurd h4.symm hr
 rcases gN_ok h4 hr.symm with ⟨_,h5⟩ | ⟨x,q,rfl,h5⟩
 ·exact absurd h5.symm hr
 rcases gN_ok h5 hr.symm with ⟨rfl,h6⟩ | ⟨_,_,_,h6⟩
 ·exact ⟨f,x,rfl,Nat.le_of_ble_eq_true hb,h6⟩
 ·exact absurd h6.symm hr
omit F s in
theorem ieq_ne {ty T1 T2:TypeId} {ms:Array (String × TypeId)} {a b:Value} (hu:P.underlying ty=some (.interface ms)) (hne:T1 ≠ T2):(Op.equal ty (.iface T1 a) (.iface T2 b)).run P w=.ok false w:=by
 show (Op.equalIn (9998 + 1 + 1) ty _ _).run P w=_
 rw [Op.equalIn]
 simp [run_underlying hu,hne]
omit F s in
theorem ieq_int {ty T:TypeId} {ms:Array (String × TypeId)} {k k1:IntKind} {z1 z2:Int} {i:TypeInfo} (hu:P.underlying ty=some (.interface ms)) (hk:P.underlying T=some (.int k)) (hi:P.info? T=some i) (hc:i.comparable=true) :
  (Op.equal ty (.iface T (.int k1 z1)) (.iface T (.int k1 z2))).run P w=.ok (z1 == z2) w:=by
 show (Op.equalIn (9998 + 1 + 1) ty _ _).run P w=_
 rw [Op.equalIn]
 simp [run_underlying hu,typeInfo,hi,hc]
 rw [Op.equalIn]
 simp [run_underlying hk]
omit F s in
theorem intTys_ok {T:Nat} (h:T ∈ intTys P):∃ k i,P.underlying T=some (.int k)∧P.info? T=some i∧i.comparable=true:=by
 unfold intTys at h
 obtain ⟨_,hq⟩:=List.mem_filter.1 h
 split at hq
 ·rename_i k i hk hi
  exact ⟨k,i,hk,hi,hq⟩
 ·cases hq
omit F s in
theorem memN_ok {f:Nat}:∀ {ks:List Nat},memN f ks=true→f ∈ ks
 | [],h=>by cases h
 | x::l,h=>by
  have h':bf (Nat.beq x f) true (memN f l)=true:=h
  rcases bf_or h' with ⟨h1,_⟩ | ⟨_,h2⟩
  ·rw [beq_ok h1]; exact List.mem_cons_self
  ·exact List.mem_cons_of_mem _ (memN_ok h2)
theorem ok_ise {op:BinOp} {neg:Bool} (hop:(op=.eql∧neg=false) ∨ (op=.neq∧neg=true)) {ty yt:TypeId} {x y:Operand} {ms:Array (String × TypeId)} (ho:o.op=.binOp op ty x y yt) (hu:P.underlying ty=some (.interface ms)) (e:step (.se (99::intTys P) neg (opd P nt x) (opd P nt y)) ys cl fl lim t h n=.ok v h' n') :
  Ok1 P ρ g fl o a m w h n v h' n':=by
 have e1:gB (SR.bad [123]) (eqIf (tlN (99::intTys P)) (ev t (opd P nt x)) (ev t (opd P nt y))) (fun r=>SR.ok (mkB (eqB neg (notB r))) h n)=.ok v h' n':=e
 have et:tlN (99::intTys P)=intTys P:=rfl
 rw [et] at e1
 obtain ⟨r,hr,e2⟩:=gB_ok e1 (by simp)
 cases e2
 unfold eqIf at hr
 obtain ⟨f1,u1,hx,hf,h3⟩:=ifP_ok hr (by simp)
 obtain ⟨f2,u2,hy,hg,h4⟩:=ifP_ok h3 (by simp)
 have dx:=opd_ok F x (by rw [hx]; simp)
 have dy:=opd_ok F y (by rw [hy]; simp)
 rw [hx] at dx
 rw [hy] at dy
 obtain ⟨a1,ha,da⟩:=den_if hf dx
 obtain ⟨b1,hb,db⟩:=den_if hg dy
 have heq:(Op.equal ty (a.eval x) (a.eval y)).run P w=.ok r w:=by
  rw [ha,hb]
  rcases bf_or h4 with ⟨hfg,h5⟩ | ⟨hfg,h5⟩
  ·obtain rfl:=beq_ok hfg
   obtain ⟨hm,h6⟩:=bf_ok h5 (by simp)
   rw [Nat.sub_eq] at hm
   obtain ⟨k,i,hk,hi,hc⟩:=intTys_ok (memN_ok hm)
   obtain ⟨k1,z1,rfl,h7⟩:=gI_ok h6 (by simp)
   obtain ⟨k2,z2,rfl,h8⟩:=gI_ok h7 (by simp)
   obtain ⟨h9,h10⟩:=bf_ok h8 (by simp)
   obtain rfl:=eqK_ok h9
   rw [mkB_eq,eqI_eq] at h10
   cases h10
   obtain rfl:a1=.int k1 z1:=da
   obtain rfl:b1=.int k1 z2:=db
   exact ieq_int hu hk hi hc
  ·cases h5
   have hne:f1 ≠ f2:=by
    intro q
    rw [q] at hfg
    simp at hfg
   have hne2:(f1 - 33554432:Nat) ≠ f2 - 33554432:=by omega
   exact ieq_ne hu hne2
 have ex:Eqs (a.eval x):=by rw [ha]; exact .inr (.inr (.inr (.inr (.inr (.inr ⟨_,_,rfl⟩)))))
 have ey:Eqs (a.eval y):=by rw [hb]; exact .inr (.inr (.inr (.inr (.inr (.inr ⟨_,_,rfl⟩)))))
 obtain ⟨r1,r2⟩:=run_eql ex ey heq
 have gx:∀ (op:BinOp) (u:Value),(eqGuard op ty x y (a.eval x) u).run P w=.ok () w:=fun op u=>eqGuard_run (by rw [ha]; simp) (by rw [ha]; simp) w
 rw [mkB_eq,eqB_eq,notB_eq]
 rcases hop with ⟨rfl,rfl⟩ | ⟨rfl,rfl⟩
 ·exact Ok1.quiet (u:=.bool r) s (by simp [execOp,ho,gx,r1]) (by cases r <;> rfl)
 ·exact Ok1.quiet (u:=.bool (!r)) s (by simp [execOp,ho,gx,r2]) (by cases r <;> rfl)
theorem ok_cse (hy:YsOk ρ ys) {op:BinOp} {neg:Bool} (hop:(op=.eql∧neg=false) ∨ (op=.neq∧neg=true)) {ty yt:TypeId} {x y:Operand} {fs:Array Field} (ho:o.op=.binOp op ty x y yt) (hu:P.underlying ty=some (.struct fs)) (e:step (compSe P nt neg op ty fs x y) ys cl fl lim t h n=.ok v h' n') :
  Ok1 P ρ g fl o a m w h n v h' n':=by
 unfold compSe at e
 split at e
 ·rename_i ks hk
  split at e
  ·rename_i hc
   obtain ⟨hs,hg⟩:=hc
   have e1:gA (SR.bad [120]) (ev t (opd P nt x)) (fun c=>gA (SR.bad [121]) (ev t (opd P nt y)) fun d=>gB (SR.bad [122]) (eqCh ys ks c d) fun r=>SR.ok (mkB (eqB neg (notB r))) h n)=.ok v h' n':=by
    have e0:bf (isIf ks) _ _=SR.ok v h' n':=e
    rw [isIf_struct hk] at e0
    exact e0
   obtain ⟨c,hx,e2⟩:=gA_ok e1 (by simp)
   obtain ⟨d,hy',e3⟩:=gA_ok e2 (by simp)
   obtain ⟨r,hr,e4⟩:=gB_ok e3 (by simp)
   cases e4
   have dx:=opd_ok F x (by rw [hx]; simp)
   have dy:=opd_ok F y (by rw [hy']; simp)
   rw [hx] at dx
   rw [hy'] at dy
   obtain ⟨us,q1,q2,q3⟩:=dx
   obtain ⟨vs,q4,q5,q6⟩:=dy
   have he:=equalSe hy hu hs hk q1 q4 hr w
   have gu:∀ op:BinOp,(eqGuard op ty x y (.agg us.toArray) (.agg vs.toArray)).run P w=.ok () w:=fun op=>by
    unfold eqGuard
    cases op <;> (try rfl) <;> simp [hg]
   have b1:(binOp .eql ty (.agg us.toArray) (.agg vs.toArray)).run P w=.ok (.bool r) w:=by
    have:binOp .eql ty (.agg us.toArray) (.agg vs.toArray)=(do pure (.bool (← Op.equal ty (.agg us.toArray) (.agg vs.toArray))):Sem Value):=rfl
    rw [this]; simp [he]
   have b2:(binOp .neq ty (.agg us.toArray) (.agg vs.toArray)).run P w=.ok (.bool (!r)) w:=by
    have:binOp .neq ty (.agg us.toArray) (.agg vs.toArray)=(do pure (.bool (!(← Op.equal ty (.agg us.toArray) (.agg vs.toArray)))):Sem Value):=rfl
    rw [this]; simp [he]
   rw [mkB_eq,eqB_eq,notB_eq]
   rcases hop with ⟨rfl,rfl⟩ | ⟨rfl,rfl⟩
   ·exact Ok1.quiet (u:=.bool r) s (by simp [execOp,ho,q3,q6,gu,b1]) (by cases r <;> rfl)
   ·exact Ok1.quiet (u:=.bool (!r)) s (by simp [execOp,ho,q3,q6,gu,b2]) (by cases r <;> rfl)
  ·exact ok_bn F s hy ho e
 ·exact ok_bn F s hy ho e
theorem ok_cae (hy:YsOk ρ ys) {op:BinOp} {neg:Bool} (hop:(op=.eql∧neg=false) ∨ (op=.neq∧neg=true)) {ty yt:TypeId} {x y:Operand} {len:Nat} {el:TypeId} (ho:o.op=.binOp op ty x y yt) (hu:P.underlying ty=some (.array len el)) (e:step (compAe P nt neg op ty len el x y) ys cl fl lim t h n=.ok v h' n') :
  Ok1 P ρ g fl o a m w h n v h' n':=by
 unfold compAe at e
 split at e
 ·rename_i ks hk
  split at e
  ·rename_i hc
   obtain ⟨hs,hg⟩:=hc
   have e1:gA (SR.bad [120]) (ev t (opd P nt x)) (fun c=>gA (SR.bad [121]) (ev t (opd P nt y)) fun d=>gB (SR.bad [122]) (eqCh ys (List.replicate len ks) c d) fun r=>SR.ok (mkB (eqB neg (notB r))) h n)=.ok v h' n':=by
    have e0:bf (isIf (List.replicate len ks)) _ _=SR.ok v h' n':=e
    rw [isIf_rep hk] at e0
    exact e0
   obtain ⟨c,hx,e2⟩:=gA_ok e1 (by simp)
   obtain ⟨d,hy',e3⟩:=gA_ok e2 (by simp)
   obtain ⟨r,hr,e4⟩:=gB_ok e3 (by simp)
   cases e4
   have dx:=opd_ok F x (by rw [hx]; simp)
   have dy:=opd_ok F y (by rw [hy']; simp)
   rw [hx] at dx
   rw [hy'] at dy
   obtain ⟨us,q1,q2,q3⟩:=dx
   obtain ⟨vs,q4,q5,q6⟩:=dy
   have he:=equalAe hy hu hs hk q1 q4 hr w
   have gu:∀ op:BinOp,(eqGuard op ty x y (.agg us.toArray) (.agg vs.toArray)).run P w=.ok () w:=fun op=>by
    unfold eqGuard
    cases op <;> (try rfl) <;> simp [hg]
   have b1:(binOp .eql ty (.agg us.toArray) (.agg vs.toArray)).run P w=.ok (.bool r) w:=by
    have:binOp .eql ty (.agg us.toArray) (.agg vs.toArray)=(do pure (.bool (← Op.equal ty (.agg us.toArray) (.agg vs.toArray))):Sem Value):=rfl
    rw [this]; simp [he]
   have b2:(binOp .neq ty (.agg us.toArray) (.agg vs.toArray)).run P w=.ok (.bool (!r)) w:=by
    have:binOp .neq ty (.agg us.toArray) (.agg vs.toArray)=(do pure (.bool (!(← Op.equal ty (.agg us.toArray) (.agg vs.toArray)))):Sem Value):=rfl
    rw [this]; simp [he]
   rw [mkB_eq,eqB_eq,notB_eq]
   rcases hop with ⟨rfl,rfl⟩ | ⟨rfl,rfl⟩
   ·exact Ok1.quiet (u:=.bool r) s (by simp [execOp,ho,q3,q6,gu,b1]) (by cases r <;> rfl)
   ·exact Ok1.quiet (u:=.bool (!r)) s (by simp [execOp,ho,q3,q6,gu,b2]) (by cases r <;> rfl)
  ·exact ok_bn F s hy ho e
 ·exact ok_bn F s hy ho e
theorem ok_nc {x:Operand} (ho:o.op=.nilCheck x) (e:step (.nc (opd P nt x)) ys cl fl lim t h n=.ok v h' n'):Ok1 P ρ g fl o a m w h n v h' n':=by
 have e1:gP (gF (SR.bad [16]) (ev t (opd P nt x)) fun f c=>bf (Nat.ble 33554432 f) (gN (.bad [186]) c (.bad [187]) fun _ _=>.ok (.fn f c) h n) (.ok (.fn f c) h n)) (ev t (opd P nt x)) (fun b o=>SR.ok (.p b o) h n)=.ok v h' n':=e
 rcases gP_or e1 with ⟨b,k,hb,e2⟩ | e2
 ·cases e2
  have dx:=opd_ok F x (by rw [hb]; simp)
  rw [hb] at dx
  obtain ⟨B,O,Z,hm,hx⟩:=dx
  exact Ok1.quiet (u:=a.eval x) s (by simp [execOp,ho,hx]) ⟨B,O,Z,hm,hx⟩
 ·obtain ⟨f,c,hf,e3⟩:=gF_ok e2 (by simp)
  have dx:=opd_ok F x (by rw [hf]; simp)
  rw [hf] at dx
  obtain ⟨cs,hm,hx⟩:=dx
  have fin:SR.ok (.fn f c) h n=.ok v h' n'→(cs=[]→fnV f cs ≠ .nilIface)→Ok1 P ρ g fl o a m w h n v h' n':=by
   intro q hne
   cases q
   rcases fnV_kinds f cs with ⟨p1,p2,p3,p4⟩ | ⟨p1,p4⟩ | ⟨p1,p2,p4⟩ | p4 | ⟨p0,p4⟩
   ·exact Ok1.quiet (u:=a.eval x) s (by simp [execOp,ho,hx,p4]) ⟨cs,hm,hx⟩
   ·exact Ok1.quiet (u:=a.eval x) s (by simp [execOp,ho,hx,p4]) ⟨cs,hm,hx⟩
   ·exact Ok1.quiet (u:=a.eval x) s (by simp [execOp,ho,hx,p4]) ⟨cs,hm,hx⟩
   ·exact Ok1.quiet (u:=a.eval x) s (by simp [execOp,ho,hx,p4]) ⟨cs,hm,hx⟩
   ·exact absurd p4 (hne p0)
  rcases bf_or e3 with ⟨_,e4⟩ | ⟨hb,e4⟩
  ·rcases gN_ok e4 (by simp) with ⟨_,e5⟩ | ⟨y,r,rfl,e5⟩
   ·cases e5
   ·obtain ⟨x0,xs,hcs,_,_⟩:=denC_cons.1 hm
    exact fin e5 (fun q=>by rw [hcs] at q; cases q)
  ·obtain ⟨p1,p2,p3,p4⟩:=fnV_func (f:=f) (by
    rcases Nat.lt_or_ge f 33554432 with q | q
    ·exact q
    ·rw [Nat.ble_eq_true_of_le q] at hb; cases hb) cs
   exact fin e4 (fun _ q=>by rw [p4] at q; cases q)
theorem ok_ng {ty:TypeId} {x:Operand} (ho:o.op=.unOp .neg ty x) (e:step (.ng (opd P nt x)) ys cl fl lim t h n=.ok v h' n'):Ok1 P ρ g fl o a m w h n v h' n':=by
 have e1:gI (gY (SR.bad [24]) (ev t (opd P nt x)) fun k e=>SR.ok (.y k (.sub k (.c 0) e)) h n) (ev t (opd P nt x)) (fun k a=>okV (arI .sub k 0 a) h n 24)=.ok v h' n':=e
 rcases gI_or e1 with ⟨k,z,hz,e2⟩ | e2
 ·obtain ⟨hu,rfl,rfl,rfl⟩:=okV_ok e2
  have dx:=opd_ok F x (by rw [hz]; simp)
  rw [hz] at dx
  have hx:a.eval x=.int k z:=dx
  refine Ok1.quiet (u:=.int k (k.wrap (0 - z))) s (by simp [execOp,ho,hx,Op.unary,Op.intArith]) ?_
  show den ρ m (wrapI k (0 - z)) _
  rw [wrapI_eq]; rfl
 ·obtain ⟨k,f,hf,e3⟩:=gY_ok e2 (by simp)
  cases e3
  have hu:ev t (opd P nt x) ≠ .un:=by rcases hf with q | ⟨z,q,_⟩ <;> rw [q] <;> simp
  have dx:=opd_ok F x hu
  have hx:a.eval x=.int k (f.val ρ):=by
   rcases hf with q | ⟨z,q,rfl⟩
   ·rw [q] at dx; exact dx
   ·rw [q] at dx; exact dx
  exact Ok1.quiet (u:=.int k (k.wrap (0 - f.val ρ))) s (by simp [execOp,ho,hx,Op.unary,Op.intArith]) rfl
theorem ok_nt {ty:TypeId} {x:Operand} (ho:o.op=.unOp .not ty x) (e:step (.nt (opd P nt x)) ys cl fl lim t h n=.ok v h' n'):Ok1 P ρ g fl o a m w h n v h' n':=by
 have e1:gB (SR.bad [25]) (ev t (opd P nt x)) (fun a=>SR.ok (mkB (notB a)) h n)=.ok v h' n':=e
 obtain ⟨p,hp,e2⟩:=gB_ok e1 (by simp)
 cases e2
 have dx:=opd_ok F x (by rw [hp]; simp)
 rw [hp] at dx
 have hx:a.eval x=.bool p:=dx
 rw [mkB_eq,notB_eq]
 exact Ok1.quiet (u:=.bool (!p)) s (by simp [execOp,ho,hx,Op.unary]) rfl
theorem ok_cv {sr ds:TypeId} {k:IntKind} {d:TypeDesc} {x:Operand} (ho:o.op=.convert sr ds x) (hs:P.underlying sr=some d) (hd:P.underlying ds=some (.int k)) (e:step (.cv k (opd P nt x)) ys cl fl lim t h n=.ok v h' n'):Ok1 P ρ g fl o a m w h n v h' n':=by
 have e1:gI (SR.bad [26]) (ev t (opd P nt x)) (fun _ a=>okV (wrapI k a) h n 26)=.ok v h' n':=e
 obtain ⟨j,z,hz,e2⟩:=gI_ok e1 (by simp)
 obtain ⟨hu,rfl,rfl,rfl⟩:=okV_ok e2
 have dx:=opd_ok F x (by rw [hz]; simp)
 rw [hz] at dx
 have hx:a.eval x=.int j z:=dx
 refine Ok1.quiet (u:=.int k (k.wrap z)) s (by simp [execOp,ho,hx,convert,run_underlying hs,run_underlying hd,Conv.intToInt]) ?_
 rw [wrapI_eq]; rfl
theorem ok_mf {f:FuncId} {first captured:Array Operand} (ho:o.op=.makeFunc (.func f) first captured) (hf:first.toList=[]) (hlt:f < BND) (e:step (.mf f (captured.toList.map (opd P nt))) ys cl fl lim t h n=.ok v h' n'):Ok1 P ρ g fl o a m w h n v h' n':=by
 have e1:nU (SR.bad [27]) (evL t (captured.toList.map (opd P nt))) (fun c=>SR.ok (.fn f c) h n)=.ok v h' n':=e
 obtain ⟨hu,e2⟩:=nU_ok e1 (by simp)
 cases e2
 have hfirst:first=#[]:=by simpa using hf
 refine Ok1.quiet (u:=.func (.func f) #[] (captured.map a.eval)) s (by simp [execOp,ho,hfirst,Instr.makeFunc]) ⟨captured.toList.map a.eval,evL_ok F captured.toList hu,by rw [fnV_lt hlt]; congr 1; apply Array.ext'; simp⟩
theorem ok_mb {f:FuncId} {first captured:Array Operand} {x:Operand} (hlt:f < BND) (ho:o.op=.makeFunc (.func f) first captured) (hf:first.toList=[x]) (e:step (.mf (BND + f) (opd P nt x::captured.toList.map (opd P nt))) ys cl fl lim t h n=.ok v h' n'):Ok1 P ρ g fl o a m w h n v h' n':=by
 have e1:nU (SR.bad [27]) (evL t ((x::captured.toList).map (opd P nt))) (fun c=>SR.ok (.fn (BND + f) c) h n)=.ok v h' n':=e
 obtain ⟨hu,e2⟩:=nU_ok e1 (by simp)
 cases e2
 have hfirst:first=#[x]:=by apply Array.ext'; simpa using hf
 refine Ok1.quiet (u:=.func (.func f) #[a.eval x] (captured.map a.eval)) s (by simp [execOp,ho,hfirst,Instr.makeFunc]) ⟨(x::captured.toList).map a.eval,evL_ok F (x::captured.toList) hu,?_⟩
 rw [List.map_cons,fnV_bound hlt]
 congr 1; apply Array.ext'; simp
theorem ok_mkIf {ty:TypeId} {d:TypeDesc} {x:Operand} (ho:o.op=.makeInterface ty x) (hu:P.underlying ty=some d) (hni:∀ x,d ≠ .interface x) (e:step (.mf (33554432 + ty) [.c .nil,opd P nt x]) ys cl fl lim t h n=.ok v h' n'):Ok1 P ρ g fl o a m w h n v h' n':=by
 have e1:nU (SR.bad [27]) (kons .nil (kons (ev t (opd P nt x)) .nil)) (fun c=>SR.ok (.fn (33554432 + ty) c) h n)=.ok v h' n':=e
 obtain ⟨hu1,e2⟩:=nU_ok e1 (by simp)
 cases e2
 obtain ⟨_,hu2,h3⟩:=kons_ok rfl hu1
 obtain ⟨hx,_,h4⟩:=kons_ok rfl hu2
 rw [h3,h4]
 exact Ok1.quiet (u:=.iface ty (a.eval x)) s (by simp [execOp,ho,run_mkIf hu hni]) (if_den (opd_ok F x hx))
theorem ok_ta {ty xt:TypeId} {d:TypeDesc} {x:Operand} {two:Bool} {z:Value} (ho:o.op=.typeAssert x xt ty two) (hu:P.underlying ty=some d) (hni:∀ x,d ≠ .interface x) (hz:zeroOf P ty=some z) (e:step (.ta ty (quote z) two (opd P nt x)) ys cl fl lim t h n=.ok v h' n'):Ok1 P ρ g fl o a m w h n v h' n':=by
 have e1:gIf (.bad [180]) (ev t (opd P nt x)) (taNo (quote z) two h n) (fun f v=>bf (Nat.beq f (Nat.add 33554432 ty)) (taYes two v h n) (taNo (quote z) two h n))=.ok v h' n':=e
 have no:taNo (quote z) two h n=.ok v h' n'→(∀ w,(Instr.typeAssert (a.eval x) xt ty true).run P w=.ok (.tuple #[z,.bool false]) w)→Ok1 P ρ g fl o a m w h n v h' n':=by
  intro q hr
  obtain ⟨h1,e2⟩:=bf_ok q (by simp)
  subst h1
  obtain ⟨hq,e3⟩:=nU_ok e2 (by simp)
  cases e3
  exact Ok1.quiet (u:=.tuple #[z,.bool false]) s (by simp [execOp,ho,hr]) ⟨[z,.bool false],denC_cons.2 ⟨_,_,rfl,quote_ok hq,denC_cons.2 ⟨_,_,rfl,rfl,denC_nil.2 rfl⟩⟩,rfl⟩
 obtain ⟨f,hf,h1⟩:=gIf_ok e1
 rcases h1 with ⟨hx,e2⟩ | ⟨y,hx,e2⟩
 ·have dx:=opd_ok F x (by rw [hx]; simp)
  rw [hx] at dx
  have hv:=den_if_nil hf dx
  exact no e2 fun w=>by rw [hv]; exact run_ta_nil hu hni hz w
 ·have dx:=opd_ok F x (by rw [hx]; simp)
  rw [hx] at dx
  obtain ⟨u,hv,hd⟩:=den_if hf dx
  rcases bf_or e2 with ⟨hb,e3⟩ | ⟨hb,e3⟩
  ·have hfe:f=33554432 + ty:=beq_ok hb
   have hft:f - 33554432=ty:=by omega
   rw [hft] at hv
   obtain ⟨hq,e4⟩:=nU_ok e3 (by simp)
   rcases bf_or e4 with ⟨rfl,e5⟩ | ⟨rfl,e5⟩
   ·cases e5
    exact Ok1.quiet (u:=.tuple #[u,.bool true]) s (by simp [execOp,ho,hv,run_ta_yes hu hni]) ⟨[u,.bool true],denC_cons.2 ⟨_,_,rfl,hd,denC_cons.2 ⟨_,_,rfl,rfl,denC_nil.2 rfl⟩⟩,rfl⟩
   ·cases e5
    exact Ok1.quiet (u:=u) s (by simp [execOp,ho,hv,run_ta_yes hu hni]) hd
  ·have hne:f ≠ 33554432 + ty:=fun q=>by rw [q,show Nat.beq (33554432 + ty) (Nat.add 33554432 ty)=true from Nat.beq_refl _] at hb; cases hb
   exact no e3 fun w=>by rw [hv]; exact run_ta_no hu hni hz (fun q=>hne (by have q:f - 33554432=ty:=q; omega)) u w
end
end Go.Rn
namespace Go.Rn
variable {ρ:Nat→Int} {m m':Mp} {P:Program}
section
variable {g fl n n' nt lim:Nat} {h h':HT} {t:FT} {a:Act} {o:Oper} {w:World} {v:RV} {ys:Ys} {cl:Cl'}
variable (F:Fr P ρ m nt t a.tmps) (s:Sim P ρ m g h w)
theorem one_arr {α:Type} {x:α} {l:Array α} (h:l.toList=[x]):l=#[x]:=by rw [← Array.toArray_toList (xs:=l),h]
theorem two_arr {α:Type} {x y:α} {l:Array α} (h:l.toList=[x,y]):l=#[x,y]:=by rw [← Array.toArray_toList (xs:=l),h]
theorem slLen_ok {r:RV} {u:Value} {l:Nat} (h:slLen r=some l) (hd:den ρ m r u):∃ p c,u=.slice p l c∧l≤c:=by
 unfold slLen at h
 rcases gL_ok h (by simp) with ⟨rfl,e⟩ | ⟨b,o,l',c,rfl,e⟩ | ⟨b,o,l',e',rfl,e⟩ | ⟨b,e',rfl,e⟩
 ·cases e; exact ⟨none,0,hd,Nat.le_refl _⟩
 ·cases e; obtain ⟨B,O,Z,_,h1,rfl⟩:=hd; exact ⟨_,_,rfl,h1⟩
 ·cases e; obtain ⟨B,O,Z,c,_,h1,_,rfl⟩:=hd; exact ⟨_,_,rfl,(by omega)⟩
 ·cases e; obtain ⟨B,O,Z,O',c,_,_,rfl⟩:=hd; exact ⟨_,_,rfl,Nat.zero_le _⟩
theorem part_ok {gg:Bool} {c:RV} {cs:List Value} (hd:denC ρ m c cs) (hc:∀ x ∈ cs,Cell x) {off sz:Nat} {e:TypeId} (hs:szOf P e=some sz) (hg:aggOf P e=some gg) (e1:partC gg c off sz h n=.ok v h' n') :
  h'=h∧n'=n∧∃ u,(part e cs.toArray off).run P w=.ok u w∧den ρ m v u:=by
 unfold partC at e1
 rcases bf_or e1 with ⟨hgg,e2⟩ | ⟨hgg,e2⟩
 ·subst hgg
  obtain ⟨hu,e3⟩:=nU_ok e2 (by simp)
  cases e3
  obtain ⟨h1,h2⟩:=chSub_ok hd sz off hu
  refine ⟨rfl,rfl,.agg (cs.toArray.extract off (off + sz)),by simp [part,aggOf_run hg,szOf_run hs],(cs.drop off).take sz,h1,fun x hx=>hc x (List.mem_of_mem_drop (List.mem_of_mem_take hx)),?_⟩
  congr 1
  apply Array.ext'
  simp [List.extract_eq_take_drop,Nat.add_sub_cancel_left]
 ·subst hgg
  obtain ⟨hu,rfl,rfl,rfl⟩:=okV_ok e2
  obtain ⟨u,hu1,hu2⟩:=chGet_ok off cs hu hd
  exact ⟨rfl,rfl,u,by simp [part,aggOf_run hg,hu1],hu2⟩
theorem ixN_ok {i:Operand} (F:Fr P ρ m nt t a.tmps) {l:Nat} {k:Nat→SR} (e:ixN (ev t (opd P nt i)) l k=.ok v h' n'):∃ (j:IntKind) (z:Nat),a.eval i=.int j z∧z < l∧k z=.ok v h' n':=by
 unfold ixN at e
 obtain ⟨j,x,hx,e2⟩:=gI_ok e (by simp)
 obtain ⟨h1,e3⟩:=bf_ok e2 (by simp)
 obtain ⟨h2,e4⟩:=bf_ok e3 (by simp)
 have di:=opd_ok F i (by rw [hx]; simp)
 rw [hx] at di
 have di':a.eval i=.int j x:=di
 refine ⟨j,natI x,?_,ble_ok h2,e4⟩
 rw [di',← nonI_ok h1]
include F s
theorem ok_fa {ty:TypeId} {x:Operand} {k:Nat} {fs:Array Field} {f:Field} {sz:Nat} (ho:o.op=.fieldAddr ty x k) (hu:P.underlying ty=some (.struct fs)) (hf:fs[k]?=some f) (hs:szOf P f.type=some sz) (h0:0 < sz)
  (e:step (.fa f.offset (opd P nt x)) ys cl fl lim t h n=.ok v h' n'):Ok1 P ρ g fl o a m w h n v h' n':=by
 have e1:gP (SR.bad [49]) (ev t (opd P nt x)) (fun b o=>SR.ok (.p b (Nat.add o f.offset)) h n)=.ok v h' n':=e
 obtain ⟨b,q,hb,e2⟩:=gP_ok e1 (by simp)
 cases e2
 have dx:=opd_ok F x (by rw [hb]; simp)
 rw [hb] at dx
 obtain ⟨B,O,Z,hm,hx⟩:=dx
 have hne:sz ≠ 0:=by omega
 refine Ok1.quiet (u:=.pointer (some ⟨B,O + (q + f.offset),none⟩)) s ?_ ⟨B,O,Z,hm,rfl⟩
 simp [execOp,ho,hx,Instr.fieldAt,run_underlying hu,hf,Instr.sureAddr,fieldPlace,szOf_run hs,hne,add_at,Nat.add_assoc]
theorem ok_fd {ty:TypeId} {x:Operand} {k:Nat} {fs:Array Field} {f:Field} {sz:Nat} {gg:Bool} (ho:o.op=.field ty x k) (hu:P.underlying ty=some (.struct fs)) (hf:fs[k]?=some f) (hs:szOf P f.type=some sz) (hg:aggOf P f.type=some gg)
  (e:step (.fd gg f.offset sz (opd P nt x)) ys cl fl lim t h n=.ok v h' n'):Ok1 P ρ g fl o a m w h n v h' n':=by
 have e1:gA (SR.bad [52]) (ev t (opd P nt x)) (fun c=>partC gg c f.offset sz h n)=.ok v h' n':=e
 obtain ⟨c,hc,e2⟩:=gA_ok e1 (by simp)
 have dx:=opd_ok F x (by rw [hc]; simp)
 rw [hc] at dx
 obtain ⟨cs,d1,d2,hx⟩:=dx
 obtain ⟨rfl,rfl,u,hr,hd⟩:=part_ok (w:=w) d1 d2 hs hg e2
 exact Ok1.quiet (u:=u) s (by simp [execOp,ho,hx,Instr.field,run_underlying hu,hf,asAgg,hr]) hd
theorem ok_ia {ty:TypeId} {x i:Operand} {el:TypeId} {sz:Nat} (ho:o.op=.indexAddr ty x i) (hu:P.underlying ty=some (.slice el)) (hs:szOf P el=some sz)
  (e:step (.ia sz (opd P nt x) (opd P nt i)) ys cl fl lim t h n=.ok v h' n'):Ok1 P ρ g fl o a m w h n v h' n':=by
 have e1:gL (SR.bad [56]) (ev t (opd P nt x)) (SR.bad [57]) (fun b o l _=>ixN (ev t (opd P nt i)) l fun a=>SR.ok (.p b (Nat.add o (Nat.mul a sz))) h n) (fun b o l _=>ixN (ev t (opd P nt i)) l fun a=>SR.ok (.p b (Nat.add o (Nat.mul a sz))) h n) (fun _ _=>SR.bad [58])=.ok v h' n':=e
 rcases gL_ok e1 (by simp) with ⟨_,e2⟩ | ⟨b,q,l,c,hx,e2⟩ | ⟨b,q,l,c,hx,e2⟩ | ⟨_,_,_,e2⟩
 ·cases e2
 ·obtain ⟨j,z,hz,hlt,e3⟩:=ixN_ok F e2
  cases e3
  have dx:=opd_ok F x (by rw [hx]; simp)
  rw [hx] at dx
  obtain ⟨B,O,Z,hm,hlc,hxv⟩:=dx
  refine Ok1.quiet (u:=.pointer (some ⟨B,O + (q + z * sz),none⟩)) s ?_ ⟨B,O,Z,hm,rfl⟩
  simp [execOp,ho,hxv,hz,Instr.indexAt,asIntOf,run_underlying hu,hlt,szOf_run hs,add_at,Nat.add_assoc]
 ·obtain ⟨j,z,hz,hlt,e3⟩:=ixN_ok F e2
  cases e3
  have dx:=opd_ok F x (by rw [hx]; simp)
  rw [hx] at dx
  obtain ⟨B,O,Z,cc,hm,hlc,_,hxv⟩:=dx
  refine Ok1.quiet (u:=.pointer (some ⟨B,O + (q + z * sz),none⟩)) s ?_ ⟨B,O,Z,hm,rfl⟩
  simp [execOp,ho,hxv,hz,Instr.indexAt,asIntOf,run_underlying hu,hlt,szOf_run hs,add_at,Nat.add_assoc]
 ·cases e2
theorem ok_ip {ty:TypeId} {x i:Operand} {el:TypeId} {sz k:Nat} (ho:o.op=.indexAddr ty x i) (hu:P.underlying ty=some (.array k el)) (hs:szOf P el=some sz)
  (e:step (.ip k sz (opd P nt x) (opd P nt i)) ys cl fl lim t h n=.ok v h' n'):Ok1 P ρ g fl o a m w h n v h' n':=by
 have e1:gP (SR.bad [59]) (ev t (opd P nt x)) (fun b o=>ixN (ev t (opd P nt i)) k fun a=>SR.ok (.p b (Nat.add o (Nat.mul a sz))) h n)=.ok v h' n':=e
 obtain ⟨b,q,hb,e2⟩:=gP_ok e1 (by simp)
 obtain ⟨j,z,hz,hlt,e3⟩:=ixN_ok F e2
 cases e3
 have dx:=opd_ok F x (by rw [hb]; simp)
 rw [hb] at dx
 obtain ⟨B,O,Z,hm,hx⟩:=dx
 refine Ok1.quiet (u:=.pointer (some ⟨B,O + (q + z * sz),none⟩)) s ?_ ⟨B,O,Z,hm,rfl⟩
 simp [execOp,ho,hx,hz,Instr.indexAt,asIntOf,run_underlying hu,Instr.sureAddr,hlt,szOf_run hs,add_at,Nat.add_assoc]
theorem ok_ix {ty:TypeId} {x i:Operand} {el:TypeId} {sz k:Nat} {gg:Bool} (ho:o.op=.index ty x i) (hu:P.underlying ty=some (.array k el)) (hs:szOf P el=some sz) (hg:aggOf P el=some gg)
  (e:step (.ix gg k sz (opd P nt x) (opd P nt i)) ys cl fl lim t h n=.ok v h' n'):Ok1 P ρ g fl o a m w h n v h' n':=by
 have e1:gA (SR.bad [60]) (ev t (opd P nt x)) (fun c=>ixN (ev t (opd P nt i)) k fun a=>partC gg c (Nat.mul a sz) sz h n)=.ok v h' n':=e
 obtain ⟨c,hc,e2⟩:=gA_ok e1 (by simp)
 obtain ⟨j,z,hz,hlt,e3⟩:=ixN_ok F e2
 have dx:=opd_ok F x (by rw [hc]; simp)
 rw [hc] at dx
 obtain ⟨cs,d1,d2,hx⟩:=dx
 obtain ⟨rfl,rfl,u,hr,hd⟩:=part_ok (w:=w) d1 d2 hs hg e3
 have hr':(part el cs.toArray (z * sz)).run P w=.ok u w:=hr
 exact Ok1.quiet (u:=u) s (by simp [execOp,ho,hx,hz,Instr.index,asIntOf,run_underlying hu,hlt,szOf_run hs,hr']) hd
theorem ok_sx {ty:TypeId} {x i:Operand} (ho:o.op=.index ty x i) (hu:P.underlying ty=some .string)
  (e:step (.sx (opd P nt x) (opd P nt i)) ys cl fl lim t h n=.ok v h' n'):Ok1 P ρ g fl o a m w h n v h' n':=by
 have e1:gS (SR.bad [61]) (ev t (opd P nt x)) (fun l=>ixN (ev t (opd P nt i)) l.length fun a=>gO (SR.bad [62]) l[a]? fun c=>SR.ok (.i .u8 (Int.ofNat c)) h n)=.ok v h' n':=e
 obtain ⟨l,hl,e2⟩:=gS_ok e1 (by simp)
 obtain ⟨j,z,hz,hlt,e3⟩:=ixN_ok F e2
 obtain ⟨c,hc,e4⟩:=gO_ok e3 (by simp)
 cases e4
 have dx:=opd_ok F x (by rw [hl]; simp)
 rw [hl] at dx
 obtain ⟨hx,h256⟩:=dx
 have hcl:c < 256:=h256 c (List.mem_of_getElem? hc)
 have hget:(⟨(l.map UInt8.ofNat).toArray⟩:ByteArray)[z]?=some (UInt8.ofNat c):=by
  have hsz:z < (⟨(l.map UInt8.ofNat).toArray⟩:ByteArray).size:=by show z < (l.map UInt8.ofNat).toArray.size; simpa using hlt
  rw [ByteArray.getElem?_lt' _ _ hsz]
  have:(l.map UInt8.ofNat)[z]?=some (UInt8.ofNat c):=by simp [hc]
  congr 1
  have h2:(l.map UInt8.ofNat)[z]'(by simpa using hlt)=UInt8.ofNat c:=by
   have:=List.getElem?_eq_some_iff.1 this
   exact this.2
  exact h2
 refine Ok1.quiet (u:=.int .u8 ((UInt8.ofNat c).toNat:Int)) s (by simp [execOp,ho,hx,hz,Instr.index,asIntOf,run_underlying hu,hget]) ?_
 show Value.int .u8 _=Value.int .u8 _
 congr 1
 simp [UInt8.toNat_ofNat',Nat.mod_eq_of_lt hcl]
theorem ok_ex {x:Operand} {k:Nat} (ho:o.op=.extract x k) (e:step (.ex k (opd P nt x)) ys cl fl lim t h n=.ok v h' n'):Ok1 P ρ g fl o a m w h n v h' n':=by
 have e1:gT (SR.bad [63]) (ev t (opd P nt x)) (fun c=>okV (chGet c k) h n 64)=.ok v h' n':=e
 obtain ⟨c,hc,e2⟩:=gT_ok e1 (by simp)
 obtain ⟨hu,rfl,rfl,rfl⟩:=okV_ok e2
 have dx:=opd_ok F x (by rw [hc]; simp)
 rw [hc] at dx
 obtain ⟨cs,d1,hx⟩:=dx
 obtain ⟨u,hu1,hu2⟩:=chGet_ok k cs hu d1
 exact Ok1.quiet (u:=u) s (by simp [execOp,ho,hx,Instr.extract,hu1]) hu2
/-! ### what Go's own functions do -/
theorem ok_ls {c:Call} {x:Operand} {ty:TypeId} (ho:o.op=.call c) (hc:c.callee=.builtin .len) (hx:c.args.toList=[x]) (ht:c.argTypes.toList=[ty]) (hu:P.underlying ty=some .string)
  (e:step (.ln true (opd P nt x)) ys cl fl lim t h n=.ok v h' n'):Ok1 P ρ g fl o a m w h n v h' n':=by
 have e1:gS (SR.bad [68]) (ev t (opd P nt x)) (fun l=>okV (mkI .i64 (Int.ofNat l.length)) h n 69)=.ok v h' n':=e
 obtain ⟨l,hl,e2⟩:=gS_ok e1 (by simp)
 obtain ⟨hq,rfl,rfl,rfl⟩:=okV_ok e2
 have dx:=opd_ok F x (by rw [hl]; simp)
 rw [hl] at dx
 obtain ⟨hxv,_⟩:=dx
 refine Ok1.quiet (u:=.int .i64 (l.length:Int)) s ?_ (by rw [mkI_eq]; rfl)
 have hsz:(⟨(l.map UInt8.ofNat).toArray⟩:ByteArray).size=l.length:=by show (l.map UInt8.ofNat).toArray.size=_; simp
 simp [execOp,ho,resolve,hc,one_arr hx,one_arr ht,invoke,builtin,hxv,Builtin.len_,run_underlying hu,goInt,hsz]
theorem ok_ln {c:Call} {x:Operand} {ty el:TypeId} (ho:o.op=.call c) (hc:c.callee=.builtin .len) (hx:c.args.toList=[x]) (ht:c.argTypes.toList=[ty]) (hu:P.underlying ty=some (.slice el))
  (e:step (.ln false (opd P nt x)) ys cl fl lim t h n=.ok v h' n'):Ok1 P ρ g fl o a m w h n v h' n':=by
 have e1:gO (SR.bad [69]) (slLen (ev t (opd P nt x))) (fun l=>okV (mkI .i64 (Int.ofNat l)) h n 69)=.ok v h' n':=e
 obtain ⟨l,hl,e3⟩:=gO_ok e1 (by simp)
 obtain ⟨hq,rfl,rfl,rfl⟩:=okV_ok e3
 have dx:=opd_ok F x (fun q=>by rw [q] at hl; cases hl)
 obtain ⟨p,cc,hxv,_⟩:=slLen_ok hl dx
 refine Ok1.quiet (u:=.int .i64 (l:Int)) s ?_ (by rw [mkI_eq]; rfl)
 simp [execOp,ho,resolve,hc,one_arr hx,one_arr ht,invoke,builtin,hxv,Builtin.len_,run_underlying hu,goInt]
theorem ok_la {c:Call} {x:Operand} {ty el:TypeId} {k:Nat} (ho:o.op=.call c) (hc:c.callee=.builtin .len ∨ c.callee=.builtin .cap) (hx:c.args.toList=[x]) (ht:c.argTypes.toList=[ty]) (hu:P.underlying ty=some (.array k el))
  (e:step (.mv (.c (.i .i64 k))) ys cl fl lim t h n=.ok v h' n'):Ok1 P ρ g fl o a m w h n v h' n':=by
 have _:=F.small
 have e1:okV (.i .i64 k) h n 1=.ok v h' n':=e
 obtain ⟨_,rfl,rfl,rfl⟩:=okV_ok e1
 refine Ok1.quiet (u:=.int .i64 (k:Int)) s ?_ rfl
 rcases hc with hc | hc
 ·simp [execOp,ho,resolve,hc,one_arr hx,one_arr ht,invoke,builtin,Builtin.len_,run_underlying hu,goInt]
 ·simp [execOp,ho,resolve,hc,one_arr hx,one_arr ht,invoke,builtin,Builtin.cap_,run_underlying hu,goInt]
theorem ok_cp {c:Call} {x:Operand} {ty el:TypeId} (ho:o.op=.call c) (hc:c.callee=.builtin .cap) (hx:c.args.toList=[x]) (ht:c.argTypes.toList=[ty]) (hu:P.underlying ty=some (.slice el))
  (e:step (.cp (opd P nt x)) ys cl fl lim t h n=.ok v h' n'):Ok1 P ρ g fl o a m w h n v h' n':=by
 have e1:gL (SR.bad [70]) (ev t (opd P nt x)) (SR.ok (.i .i64 (Int.ofNat 0)) h n) (fun _ _ _ c=>SR.ok (.i .i64 (Int.ofNat c)) h n) (fun _ _ _ _=>SR.bad [71]) (fun _ _=>SR.bad [72])=.ok v h' n':=e
 rcases gL_ok e1 (by simp) with ⟨hx2,e2⟩ | ⟨b,q,l,cc,hx2,e2⟩ | ⟨_,_,_,_,_,e2⟩ | ⟨_,_,_,e2⟩
 ·cases e2
  have dx:=opd_ok F x (by rw [hx2]; simp)
  rw [hx2] at dx
  have hxv:a.eval x=.slice none 0 0:=dx
  exact Ok1.quiet (u:=.int .i64 0) s (by simp [execOp,ho,resolve,hc,one_arr hx,one_arr ht,invoke,builtin,hxv,Builtin.cap_,run_underlying hu,goInt]) rfl
 ·cases e2
  have dx:=opd_ok F x (by rw [hx2]; simp)
  rw [hx2] at dx
  obtain ⟨B,O,Z,_,_,hxv⟩:=dx
  exact Ok1.quiet (u:=.int .i64 (cc:Int)) s (by simp [execOp,ho,resolve,hc,one_arr hx,one_arr ht,invoke,builtin,hxv,Builtin.cap_,run_underlying hu,goInt]) rfl
 ·cases e2
 ·cases e2
theorem ok_mm {c:Call} {x y:Operand} {mx:Bool} (ho:o.op=.call c) (hc:(c.callee=.builtin .min∧mx=false) ∨ (c.callee=.builtin .max∧mx=true)) (hx:c.args.toList=[x,y])
  (e:step (.mm mx (opd P nt x) (opd P nt y)) ys cl fl lim t h n=.ok v h' n'):Ok1 P ρ g fl o a m w h n v h' n':=by
 have e1:gI (SR.bad [80]) (ev t (opd P nt x)) (fun k a=>gI (SR.bad [81]) (ev t (opd P nt y)) fun j b=>bf (eqK k j) (okV (mkI k (bf (bf mx (ltI a b) (ltI b a)) b a)) h n 82) (SR.bad [83]))=.ok v h' n':=e
 obtain ⟨k,p,hp,e2⟩:=gI_ok e1 (by simp)
 obtain ⟨j,q,hq,e3⟩:=gI_ok e2 (by simp)
 obtain ⟨hk,e4⟩:=bf_ok e3 (by simp)
 obtain rfl:=eqK_ok hk
 obtain ⟨_,rfl,rfl,rfl⟩:=okV_ok e4
 have dx:=opd_ok F x (by rw [hp]; simp)
 have dy:=opd_ok F y (by rw [hq]; simp)
 rw [hp] at dx
 rw [hq] at dy
 have hxv:a.eval x=.int k p:=dx
 have hyv:a.eval y=.int k q:=dy
 rw [mkI_eq]
 rcases hc with ⟨hc,rfl⟩ | ⟨hc,rfl⟩
 ·refine Ok1.quiet (u:=.int k (if q < p then q else p)) s (by simp [execOp,ho,resolve,hc,two_arr hx,invoke,builtin,hxv,hyv,Builtin.min_,Builtin.min2]) ?_
  show Value.int k _=Value.int k _
  congr 1
  simp only [bf_eq,ltI_eq,decide_eq_true_eq,Bool.false_eq_true,if_false]
 ·refine Ok1.quiet (u:=.int k (if q > p then q else p)) s (by simp [execOp,ho,resolve,hc,two_arr hx,invoke,builtin,hxv,hyv,Builtin.max_,Builtin.max2]) ?_
  show Value.int k _=Value.int k _
  congr 1
  simp only [bf_eq,ltI_eq,decide_eq_true_eq,if_true]
end
end Go.Rn
