/-
  One text of a symbolic evaluator over the model, shown sound once for every program: no statement is claimed here.
-/
import Derived.Test.YthfaoceleaaepaaGreatDoorRnC
import Derived.Laws.Append
import Derived.Laws.CopyRow
import Derived.ChangeKeysEq
namespace Go.Rn
def SE.val (ρ:Nat→Int):SE→Int
 | .v n=>ρ n
 | .c z=>z
 | .add k a b=>k.wrap (a.val ρ + b.val ρ)
 | .sub k a b=>k.wrap (a.val ρ - b.val ρ)
 | .mul k a b=>k.wrap (a.val ρ * b.val ρ)
 | .xor a b=>IntKind.i64.wrap (((BitVec.ofInt 64 (a.val ρ)) ^^^ (BitVec.ofInt 64 (b.val ρ))).toNat:Int)
 | .qu a n=>IntKind.i64.wrap ((a.val ρ).tdiv ((n:Int) + 1))
abbrev Mp:=Nat→Option (Nat × Nat × Nat)
def Cell (v:Value):Prop:=v.oneCell'=true
def fnV (f:Nat) (cs:List Value):Value:=if f < BND then .func (.func f) #[] cs.toArray else match cs with
 | x::r=>if f < 33554432 then .func (.func (f - BND)) #[x] r.toArray else match x with
  | .map (some L)=>.func (.yield L) #[] #[]
  | _=>match r with
   | y::_=>.iface (f - 33554432) y
   | []=>.map none
 | []=>if f < 33554432 then .func (.func f) #[] #[] else .nilIface
theorem fnV_func {f:Nat} (hf:f < 33554432) (cs:List Value):∃ a b c,fnV f cs=.func (.func a) b c:=by
 unfold fnV
 split
 ·exact ⟨_,_,_,rfl⟩
 ·cases cs with
  | nil=>dsimp only; exact ⟨_,_,_,rfl⟩
  | cons x r=>dsimp only; exact ⟨_,_,_,rfl⟩
theorem fnV_nil {f:Nat} (hf:33554432≤f):fnV f []=.nilIface:=by
 have hB:BND=16777216:=rfl
 unfold fnV
 rw [if_neg (by omega)]
 dsimp only
 rw [if_neg (by omega)]
theorem fnV_if {f:Nat} (hf:33554432≤f) (y:Value) (r:List Value):fnV f (.tuple #[]::y::r)=.iface (f - 33554432) y:=by
 have hB:BND=16777216:=rfl
 unfold fnV
 rw [if_neg (by omega)]
 dsimp only
 rw [if_neg (by omega)]
theorem fnV_map (b:Bool):fnV 33554432 [.bool b]=.map none:=by
 have hB:BND=16777216:=rfl
 unfold fnV
 rw [if_neg (by omega)]
 rfl
theorem fnV_kinds (f:Nat) (cs:List Value):(∃ a b c,fnV f cs=.func (.func a) b c) ∨ (∃ L,fnV f cs=.func (.yield L) #[] #[]) ∨ (∃ t y,fnV f cs=.iface t y) ∨ fnV f cs=.map none ∨ (cs=[]∧fnV f cs=.nilIface):=by
 rcases Nat.lt_or_ge f 33554432 with h | h
 ·exact .inl (fnV_func h cs)
 ·have hB:BND=16777216:=rfl
  cases cs with
  | nil=>exact .inr (.inr (.inr (.inr ⟨rfl,fnV_nil h⟩)))
  | cons x r=>
   unfold fnV
   rw [if_neg (by omega)]
   dsimp only
   rw [if_neg (by omega)]
   split
   ·exact .inr (.inl ⟨_,rfl⟩)
   ·split
    ·exact .inr (.inr (.inl ⟨_,_,rfl⟩))
    ·exact .inr (.inr (.inr (.inl rfl)))
theorem fnV_cell (f:Nat) (cs:List Value):Cell (fnV f cs):=by
 rcases fnV_kinds f cs with ⟨a,b,c,e⟩ | ⟨L,e⟩ | ⟨t,y,e⟩ | e | ⟨_,e⟩ <;> (rw [e]; rfl)
theorem fnV_lt {f:Nat} (h:f < BND) (cs:List Value):fnV f cs=.func (.func f) #[] cs.toArray:=if_pos h
theorem fnV_bound {f:Nat} (hf:f < BND) (x:Value) (cs:List Value):fnV (BND + f) (x::cs)=.func (.func f) #[x] cs.toArray:=by
 have hB:BND=16777216:=rfl
 unfold fnV
 rw [if_neg (by omega)]
 dsimp only
 rw [if_pos (by omega)]
 simp
theorem fnV_yield {k:Nat} (L:Nat) (cs:List Value):fnV (33554432 + k) (.map (some L)::cs)=.func (.yield L) #[] #[]:=by
 have hB:BND=16777216:=rfl
 unfold fnV
 rw [if_neg (by omega)]
 dsimp only
 rw [if_neg (by omega)]
def den (ρ:Nat→Int) (m:Mp):RV→Value→Prop
 | .un,_=>True
 | .ud,v=>v=undef
 | .b x,v=>v=.bool x
 | .i k n,v=>v=.int k n
 | .y k e,v=>v=.int k (e.val ρ)
 | .s l,v=>v=.string ⟨(l.map UInt8.ofNat).toArray⟩∧∀ x ∈ l,x < 256
 | .np,v=>v=.pointer none
 | .p b o,v=>∃ B O Z,m b=some (B,O,Z)∧v=.pointer (some ⟨B,O + o,none⟩)
 | .ns,v=>v=.slice none 0 0
 | .sl b o l c,v=>∃ B O Z,m b=some (B,O,Z)∧l≤c∧v=.slice (some ⟨B,O + o,none⟩) l c
 | .su b o l e,v=>∃ B O Z c,m b=some (B,O,Z)∧l + e / 1048576≤c∧O + o + c * (e % 1048576)=Z∧v=.slice (some ⟨B,O + o,none⟩) l c
 | .sx b e,v=>∃ B O Z A c,m b=some (B,O,Z)∧(c=0 ∨ ∃ O',A=⟨B,O',none⟩∧O' + c * e=Z)∧v=.slice (some A) 0 c
 | .nf,v=>v=.nilFunc
 | .fn f c,v=>∃ cs:List Value,den ρ m c (.tuple cs.toArray)∧v=fnV f cs
 | .nil,v=>v=.tuple #[]
 | .cons h t,v=>∃ (x:Value) (xs:List Value),den ρ m h x∧den ρ m t (.tuple xs.toArray)∧v=.tuple (x::xs).toArray
 | .agg c,v=>∃ cs:List Value,den ρ m c (.tuple cs.toArray)∧(∀ x ∈ cs,Cell x)∧v=.agg cs.toArray
 | .tup c,v=>∃ cs:List Value,den ρ m c (.tuple cs.toArray)∧v=.tuple cs.toArray
 | .mp b,v=>∃ B O Z,m b=some (B,O,Z)∧v=.map (some B)
def denC (ρ:Nat→Int) (m:Mp) (c:RV) (cs:List Value):Prop:=den ρ m c (.tuple cs.toArray)
def Le (m m':Mp):Prop:=∀ b x,m b=some x→m' b=some x
theorem Le.refl (m:Mp):Le m m:=fun _ _ h=>h
theorem Le.trans {a b c:Mp} (h:Le a b) (k:Le b c):Le a c:=fun x y e=>k x y (h x y e)
theorem den_le {ρ:Nat→Int} {m m':Mp} (h:Le m m'):∀ {r:RV} {v:Value},den ρ m r v→den ρ m' r v:=by
 intro r
 induction r with
 | un=>exact fun _=>trivial
 | p b o=>rintro v ⟨B,O,Z,h1,h2⟩; exact ⟨B,O,Z,h _ _ h1,h2⟩
 | sl b o l c=>rintro v ⟨B,O,Z,h1,h2⟩; exact ⟨B,O,Z,h _ _ h1,h2⟩
 | su b o l e=>rintro v ⟨B,O,Z,c,h1,h2⟩; exact ⟨B,O,Z,c,h _ _ h1,h2⟩
 | sx b e=>rintro v ⟨B,O,Z,O',c,h1,h2⟩; exact ⟨B,O,Z,O',c,h _ _ h1,h2⟩
 | fn f c ih=>rintro v ⟨cs,h1,h2⟩; exact ⟨cs,ih h1,h2⟩
 | cons a t iha iht=>rintro v ⟨x,xs,h1,h2,h3⟩; exact ⟨x,xs,iha h1,iht h2,h3⟩
 | agg c ih=>rintro v ⟨cs,h1,h2,h3⟩; exact ⟨cs,ih h1,h2,h3⟩
 | tup c ih=>rintro v ⟨cs,h1,h2⟩; exact ⟨cs,ih h1,h2⟩
 | mp b=>rintro v ⟨B,O,Z,h1,h2⟩; exact ⟨B,O,Z,h _ _ h1,h2⟩
 | _=>exact fun h=>h
theorem denC_nil {ρ:Nat→Int} {m:Mp} {cs:List Value}:denC ρ m .nil cs ↔ cs=[]:=by
 unfold denC
 constructor
 ·intro h
  have h':Value.tuple cs.toArray=.tuple #[]:=h
  simpa using h'
 ·rintro rfl; rfl
theorem denC_cons {ρ:Nat→Int} {m:Mp} {h t:RV} {cs:List Value}:denC ρ m (.cons h t) cs ↔ ∃ x xs,cs=x::xs∧den ρ m h x∧denC ρ m t xs:=by
 unfold denC
 constructor
 ·rintro ⟨x,xs,h1,h2,h3⟩
  refine ⟨x,xs,?_,h1,h2⟩
  have:=congrArg (fun v=>match v with | Value.tuple a=>a.toList | _=>[]) h3
  simpa using this
 ·rintro ⟨x,xs,rfl,h1,h2⟩
  exact ⟨x,xs,h1,h2,rfl⟩
/-! ### the ways by kinds,turned round -/
section
variable {α:Type} {d x:α}
theorem gB_ok {v:RV} {k:Bool→α} (h:gB d v k=x) (hd:d ≠ x):∃ b,v=.b b∧k b=x:=by
 cases v <;> first | exact absurd h hd | exact ⟨_,rfl,h⟩
theorem gI_ok {v:RV} {k:IntKind→Int→α} (h:gI d v k=x) (hd:d ≠ x):∃ j n,v=.i j n∧k j n=x:=by
 cases v <;> first | exact absurd h hd | exact ⟨_,_,rfl,h⟩
theorem gI_or {v:RV} {k:IntKind→Int→α} (h:gI d v k=x):(∃ j n,v=.i j n∧k j n=x) ∨ d=x:=by
 cases v <;> first | exact .inr h | exact .inl ⟨_,_,rfl,h⟩
theorem gY_ok {v:RV} {k:IntKind→SE→α} (h:gY d v k=x) (hd:d ≠ x):∃ j e,(v=.y j e ∨ ∃ z,v=.i j z∧e=.c z)∧k j e=x:=by
 cases v <;> first | exact absurd h hd | exact ⟨_,_,.inl rfl,h⟩ | exact ⟨_,_,.inr ⟨_,rfl,rfl⟩,h⟩
theorem gS_ok {v:RV} {k:List Nat→α} (h:gS d v k=x) (hd:d ≠ x):∃ l,v=.s l∧k l=x:=by
 cases v <;> first | exact absurd h hd | exact ⟨_,rfl,h⟩
theorem gS_or {v:RV} {k:List Nat→α} (h:gS d v k=x):(∃ l,v=.s l∧k l=x) ∨ d=x:=by
 cases v <;> first | exact .inr h | exact .inl ⟨_,rfl,h⟩
theorem gP_ok {v:RV} {k:Nat→Nat→α} (h:gP d v k=x) (hd:d ≠ x):∃ b o,v=.p b o∧k b o=x:=by
 cases v <;> first | exact absurd h hd | exact ⟨_,_,rfl,h⟩
theorem gP_or {v:RV} {k:Nat→Nat→α} (h:gP d v k=x):(∃ b o,v=.p b o∧k b o=x) ∨ d=x:=by
 cases v <;> first | exact .inr h | exact .inl ⟨_,_,rfl,h⟩
theorem gF_ok {v:RV} {k:Nat→RV→α} (h:gF d v k=x) (hd:d ≠ x):∃ f c,v=.fn f c∧k f c=x:=by
 cases v <;> first | exact absurd h hd | exact ⟨_,_,rfl,h⟩
theorem gA_ok {v:RV} {k:RV→α} (h:gA d v k=x) (hd:d ≠ x):∃ c,v=.agg c∧k c=x:=by
 cases v <;> first | exact absurd h hd | exact ⟨_,rfl,h⟩
theorem gT_ok {v:RV} {k:RV→α} (h:gT d v k=x) (hd:d ≠ x):∃ c,v=.tup c∧k c=x:=by
 cases v <;> first | exact absurd h hd | exact ⟨_,rfl,h⟩
theorem nU_ok {v:RV} {k:RV→α} (h:nU d v k=x) (hd:d ≠ x):v ≠ .un∧k v=x:=by
 cases v <;> first | exact absurd h hd | exact ⟨by simp,h⟩
theorem gL_ok {v:RV} {k0:α} {k1:Nat→Nat→Nat→Nat→α} {k2:Nat→Nat→Nat→Nat→α} {k3:Nat→Nat→α} (h:gL d v k0 k1 k2 k3=x) (hd:d ≠ x) :
  (v=.ns∧k0=x) ∨ (∃ b o l c,v=.sl b o l c∧k1 b o l c=x) ∨ (∃ b o l e,v=.su b o l e∧k2 b o l e=x) ∨ (∃ b e,v=.sx b e∧k3 b e=x):=by
 cases v <;> first | exact absurd h hd | exact .inl ⟨rfl,h⟩ | exact .inr (.inl ⟨_,_,_,_,rfl,h⟩) | exact .inr (.inr (.inl ⟨_,_,_,_,rfl,h⟩)) | exact .inr (.inr (.inr ⟨_,_,rfl,h⟩))
theorem gN_ok {v:RV} {k0:α} {k1:RV→RV→α} (h:gN d v k0 k1=x) (hd:d ≠ x):(v=.nil∧k0=x) ∨ ∃ a r,v=.cons a r∧k1 a r=x:=by
 cases v <;> first | exact absurd h hd | exact .inl ⟨rfl,h⟩ | exact .inr ⟨_,_,rfl,h⟩
theorem gO_ok {β:Type} {v:Option β} {k:β→α} (h:gO d v k=x) (hd:d ≠ x):∃ y,v=some y∧k y=x:=by
 cases v with
 | none=>exact absurd h hd
 | some y=>exact ⟨y,rfl,h⟩
theorem gO_or {β:Type} {v:Option β} {k:β→α} (h:gO d v k=x):(∃ y,v=some y∧k y=x) ∨ (v=none∧d=x):=by
 cases v with
 | none=>exact .inr ⟨rfl,h⟩
 | some y=>exact .inl ⟨y,rfl,h⟩
theorem gK_ok {v:RB} {k:CT→Nat→α} (h:gK d v k=x) (hd:d ≠ x):∃ c z,v=.bk c z∧k c z=x:=by
 cases v with
 | no=>exact absurd h hd
 | bk c z=>
  have h1:bf (Nat.beq z MAPZ) d (k c z)=x:=h
  cases hz:Nat.beq z MAPZ with
  | true=>rw [hz] at h1; exact absurd h1 hd
  | false=>rw [hz] at h1; exact ⟨c,z,rfl,h1⟩
theorem gK_mz {v:RB} {k:CT→Nat→α} {c:CT} {z:Nat} (h:gK d v k=x) (hd:d ≠ x) (hv:v=.bk c z):z ≠ MAPZ:=by
 subst hv
 have h1:bf (Nat.beq z MAPZ) d (k c z)=x:=h
 intro e
 subst e
 exact hd h1
theorem bf_eq (c:Bool) (y n:α):bf c y n=if c=true then y else n:=by cases c <;> rfl
theorem bf_ok {c:Bool} {y:α} (h:bf c y d=x) (hd:d ≠ x):c=true∧y=x:=by
 cases c with
 | true=>exact ⟨rfl,h⟩
 | false=>exact absurd h hd
theorem bf_or {c:Bool} {y n:α} (h:bf c y n=x):(c=true∧y=x) ∨ (c=false∧n=x):=by
 cases c with
 | true=>exact .inl ⟨rfl,h⟩
 | false=>exact .inr ⟨rfl,h⟩
theorem fT_eq {β:Type} (t:T β) (k:T β→α):fT t k=k t:=by cases t <;> rfl
theorem ble_ok {a b:Nat} (h:Nat.ble a b=true):a≤b:=Nat.le_of_ble_eq_true h
theorem beq_ok {a b:Nat} (h:Nat.beq a b=true):a=b:=Nat.eq_of_beq_eq_true h
theorem gC_ok {v:RV} {k:RV→α} (h:gC d v k=x) (hd:d ≠ x):(∃ c,v=.agg c∧k c=x) ∨ (v ≠ .un∧k (.cons v .nil)=x∧∀ ρ m u,den ρ m v u→Cell u):=by
 cases v with
 | agg c=>exact .inl ⟨c,rfl,h⟩
 | un=>exact absurd h hd
 | ud=>exact absurd h hd
 | nil=>exact absurd h hd
 | cons a b=>exact absurd h hd
 | tup c=>exact absurd h hd
 | b y=>exact .inr ⟨by simp,h,by rintro ρ m u rfl; rfl⟩
 | i j y=>exact .inr ⟨by simp,h,by rintro ρ m u rfl; rfl⟩
 | y j e=>exact .inr ⟨by simp,h,by rintro ρ m u rfl; rfl⟩
 | s l=>exact .inr ⟨by simp,h,by rintro ρ m u ⟨rfl,_⟩; rfl⟩
 | np=>exact .inr ⟨by simp,h,by rintro ρ m u rfl; rfl⟩
 | p b o=>exact .inr ⟨by simp,h,by rintro ρ m u ⟨B,O,Z,_,rfl⟩; rfl⟩
 | ns=>exact .inr ⟨by simp,h,by rintro ρ m u rfl; rfl⟩
 | sl b o l c=>exact .inr ⟨by simp,h,by rintro ρ m u ⟨B,O,Z,_,_,rfl⟩; rfl⟩
 | su b o l e=>exact .inr ⟨by simp,h,by rintro ρ m u ⟨B,O,Z,c,_,_,_,rfl⟩; rfl⟩
 | sx b e=>exact .inr ⟨by simp,h,by rintro ρ m u ⟨B,O,Z,O',c,_,_,rfl⟩; rfl⟩
 | nf=>exact .inr ⟨by simp,h,by rintro ρ m u rfl; rfl⟩
 | fn f c=>exact .inr ⟨by simp,h,by rintro ρ m u ⟨cs,_,rfl⟩; exact fnV_cell _ _⟩
 | mp b=>exact .inr ⟨by simp,h,by rintro ρ m u ⟨B,O,Z,_,rfl⟩; rfl⟩
end
theorem gR_ok {r:SR} {k:RV→HT→Nat→SR} {v:RV} {h:HT} {n:Nat} (e:gR r k=.ok v h n):∃ v' h' n',r=.ok v' h' n'∧k v' h' n'=.ok v h n:=by
 cases r with
 | ok a b c=>exact ⟨a,b,c,rfl,e⟩
 | bad l=>cases e
theorem kons_ok {x r y:RV} (h:kons x r=y) (hy:y ≠ .un):x ≠ .un∧r ≠ .un∧y=.cons x r:=by
 unfold kons at h
 obtain ⟨h1,h2⟩:=nU_ok h (fun e=>hy e.symm)
 obtain ⟨h3,h4⟩:=nU_ok h2 (fun e=>hy e.symm)
 exact ⟨h1,h3,h4.symm⟩
theorem okV_ok {v v':RV} {h h':HT} {n n' why:Nat} (e:okV v h n why=.ok v' h' n'):v ≠ .un∧v'=v∧h'=h∧n'=n:=by
 unfold okV at e
 obtain ⟨h1,h2⟩:=nU_ok e (by simp)
 simp only [SR.ok.injEq] at h2
 exact ⟨h1,h2.1.symm,h2.2.1.symm,h2.2.2.symm⟩
theorem newBlk_ok4 {h h':HT} {n n' z:Nat} {cs:CT} {v v':RV} (e:newBlk h n cs z v=.ok v' h' n'):z ≠ MAPZ∧v'=v∧h'=hst h (.bk cs z) n∧n'=n + 1:=by
 unfold newBlk at e
 cases hz:Nat.beq z MAPZ with
 | true=>rw [hz] at e; cases e
 | false=>
  rw [hz] at e
  have e1:fT cs (fun cs=>fT (hst h (.bk cs z) n) fun h=>SR.ok v h (Nat.succ n))=.ok v' h' n':=e
  rw [fT_eq,fT_eq] at e1
  cases e1
  refine ⟨fun q=>?_,rfl,rfl,rfl⟩
  rw [q,Nat.beq_refl] at hz
  cases hz
theorem cg_cst (c:CT) (x:RV) (k j:Nat):(j=k∧(cg (cst c x k) j=x ∨ cg (cst c x k) j=.un)) ∨ (j ≠ k∧cg (cst c x k) j=cg c j):=by
 rcases get_set (.un:RV) c x (k + 1) (j + 1) with ⟨h,h'⟩ | ⟨h,h'⟩
 ·exact .inl ⟨by omega,h'⟩
 ·exact .inr ⟨by omega,h'⟩
theorem hg_hst (c:HT) (x:RB) (k j:Nat):(j=k∧(hg (hst c x k) j=x ∨ hg (hst c x k) j=.no)) ∨ (j ≠ k∧hg (hst c x k) j=hg c j):=by
 rcases get_set (.no:RB) c x (k + 1) (j + 1) with ⟨h,h'⟩ | ⟨h,h'⟩
 ·exact .inl ⟨by omega,h'⟩
 ·exact .inr ⟨by omega,h'⟩
theorem cg_ce (k:Nat):cg ce k=.un:=rfl
theorem hg_he (k:Nat):hg he k=.no:=rfl
end Go.Rn
namespace Go.Rn
variable {ρ:Nat→Int} {m m':Mp} {P:Program}
/-! ### chains -/
theorem chLen_cons {a r:RV} {n:Nat} (h:chLen (.cons a r)=some n):∃ k,chLen r=some k∧n=k + 1:=by
 have h':gO none (chLen r) (fun n=>some (Nat.succ n))=some n:=h
 obtain ⟨k,hk,e⟩:=gO_ok h' (by simp)
 cases e
 exact ⟨k,hk,rfl⟩
theorem chLen_ok {c:RV}:∀ (n:Nat) (cs:List Value),chLen c=some n→denC ρ m c cs→cs.length=n:=by
 induction c with
 | nil=>intro n cs h hd; cases h; rw [denC_nil.1 hd]; rfl
 | cons a r _ ih=>
  intro n cs h hd
  obtain ⟨x,xs,rfl,_,h2⟩:=denC_cons.1 hd
  obtain ⟨k,hk,rfl⟩:=chLen_cons h
  simp [ih k xs hk h2]
 | _=>intro n cs h; cases h
theorem chGet_ok {c:RV}:∀ (k:Nat) (cs:List Value),chGet c k ≠ .un→denC ρ m c cs→∃ v,cs[k]?=some v∧den ρ m (chGet c k) v:=by
 induction c with
 | cons a r _ ih=>
  intro k cs h hd
  obtain ⟨x,xs,rfl,h1,h2⟩:=denC_cons.1 hd
  cases k with
  | zero=>exact ⟨x,rfl,h1⟩
  | succ k=>exact ih k xs h h2
 | _=>intro k cs h; exact absurd rfl h
theorem chSub_ok {c:RV} {cs:List Value} (hd:denC ρ m c cs):∀ (n k:Nat),chSub c n k ≠ .un→denC ρ m (chSub c n k) ((cs.drop k).take n)∧(n=0 ∨ k + n≤cs.length):=by
 intro n
 induction n with
 | zero=>intro k _; exact ⟨denC_nil.2 (by simp),.inl rfl⟩
 | succ n ih=>
  intro k h
  have e:chSub c (n + 1) k=kons (chGet c k) (chSub c n (k + 1)):=rfl
  obtain ⟨h1,h2,h3⟩:=kons_ok e.symm h
  obtain ⟨v,hv,hdv⟩:=chGet_ok k cs h1 hd
  have hk:k < cs.length:=by
   rcases Nat.lt_or_ge k cs.length with h | h
   ·exact h
   ·rw [List.getElem?_eq_none h] at hv; cases hv
  have hdrop:cs.drop k=v::cs.drop (k + 1):=by
   rw [List.drop_eq_getElem_cons hk]
   congr 1
   rw [List.getElem?_eq_getElem hk] at hv
   exact Option.some.inj hv
  obtain ⟨g1,g2⟩:=ih (k + 1) h2
  rw [h3,hdrop]
  exact ⟨denC_cons.2 ⟨v,(cs.drop (k + 1)).take n,rfl,hdv,g1⟩,.inr (by omega)⟩
theorem chApp_ok {c r:RV} {rs:List Value} (hr:denC ρ m r rs):∀ (cs:List Value),chApp c r ≠ .un→denC ρ m c cs→denC ρ m (chApp c r) (cs ++ rs):=by
 induction c with
 | nil=>intro cs _ hd; rw [denC_nil.1 hd]; exact hr
 | cons a t _ ih=>
  intro cs h hd
  obtain ⟨x,xs,rfl,h1,h2⟩:=denC_cons.1 hd
  have e:chApp (.cons a t) r=nU .un (chApp t r) (fun q=>.cons a q):=rfl
  obtain ⟨h3,h4⟩:=nU_ok e.symm (fun e=>h e.symm)
  rw [← h4]
  exact denC_cons.2 ⟨x,xs ++ rs,rfl,h1,ih xs h3 h2⟩
 | _=>intro cs h; exact absurd rfl h
theorem chApp_len {c r:RV} {b:Nat} (hr:chLen r=some b):∀ (a:Nat),chLen c=some a→chApp c r ≠ .un∧chLen (chApp c r)=some (a + b):=by
 induction c with
 | nil=>
  intro a h
  cases h
  refine ⟨fun e=>?_,by rw [Nat.zero_add]; exact hr⟩
  have e':r=.un:=e
  rw [e'] at hr; cases hr
 | cons x t _ ih=>
  intro a h
  obtain ⟨k,hk,rfl⟩:=chLen_cons h
  obtain ⟨h1,h2⟩:=ih k hk
  have e:chApp (.cons x t) r=.cons x (chApp t r):=by
   show nU RV.un (chApp t r) (fun q=>RV.cons x q)=_
   revert h1
   cases chApp t r <;> intro h1 <;> first | rfl | exact absurd rfl h1
  rw [e]
  refine ⟨by simp,?_⟩
  show gO none (chLen (chApp t r)) (fun n=>some (Nat.succ n))=_
  rw [h2]
  show some (Nat.succ (k + b))=_
  congr 1; omega
 | _=>intro a h; cases h
theorem chApp_un (z:RV):chApp z .un=.un:=by
 induction z with
 | cons a t _ ih=>show nU RV.un (chApp t .un) _=RV.un; rw [ih]; rfl
 | _=>rfl
theorem rep_ok {z:RV} {zs:List Value} (hz:denC ρ m z zs):∀ (n:Nat),rep z n ≠ .un→denC ρ m (rep z n) (List.replicate n zs).flatten:=by
 intro n
 induction n with
 | zero=>intro _; exact denC_nil.2 rfl
 | succ n ih=>
  intro h
  have e:rep z (n + 1)=chApp z (rep z n):=rfl
  have hn:rep z n ≠ .un:=by
   intro hu
   rw [e,hu] at h
   exact h (chApp_un z)
  rw [e] at h ⊢
  rw [List.replicate_succ,List.flatten_cons]
  exact chApp_ok (ih hn) zs h hz
/-! ### cells -/
def Knows (ρ:Nat→Int) (m:Mp) (c:CT) (C:Array Value) (O:Nat):Prop:=∀ k,cg c k ≠ .un→∃ v,C[O + k]?=some v∧den ρ m (cg c k) v∧Cell v
theorem Knows.le {c:CT} {C:Array Value} {O:Nat} (h:Knows ρ m c C O) (hl:Le m m'):Knows ρ m' c C O:=fun k hk=>let ⟨v,h1,h2,h3⟩:=h k hk; ⟨v,h1,den_le hl h2,h3⟩
theorem kons_len {x r:RV} {n:Nat} (h:kons x r ≠ .un) (hr:chLen r=some n):chLen (kons x r)=some (n + 1):=by
 obtain ⟨_,_,e⟩:=kons_ok (y:=kons x r) rfl h
 rw [e]
 show gO none (chLen r) (fun n=>some (Nat.succ n))=_
 rw [hr]; rfl
theorem rd_ok {c:CT} {C:Array Value} {O:Nat} (hk:Knows ρ m c C O):∀ (n k:Nat),rd c n k ≠ .un→chLen (rd c n k)=some n∧∃ cs:List Value,cs.length=n∧denC ρ m (rd c n k) cs∧(∀ x ∈ cs,Cell x)∧∀ (j:Nat) (v:Value),cs[j]?=some v→C[O + k + j]?=some v:=by
 intro n
 induction n with
 | zero=>intro k _; exact ⟨rfl,[],rfl,denC_nil.2 rfl,by simp,by simp⟩
 | succ n ih=>
  intro k h
  have e:rd c (n + 1) k=kons (cg c k) (rd c n (k + 1)):=rfl
  obtain ⟨h1,h2,h3⟩:=kons_ok e.symm h
  obtain ⟨v,hv,hdv,hcv⟩:=hk k h1
  obtain ⟨hlen,cs,hl,hd,hc,hj⟩:=ih (k + 1) h2
  refine ⟨by rw [e] at h ⊢; exact kons_len h hlen,v::cs,by simp [hl],by rw [h3]; exact denC_cons.2 ⟨v,cs,rfl,hdv,hd⟩,by simpa using ⟨hcv,hc⟩,fun j u hu=>?_⟩
  cases j with
  | zero=>simp at hu; subst hu; exact hv
  | succ j=>
   have:=hj j u (by simpa using hu)
   rwa [show O + k + (j + 1)=O + (k + 1) + j by omega]
theorem lay_ok {c:RV}:∀ (n:Nat) (cs:List Value) (t:CT) (k:Nat),chLen c=some n→denC ρ m c cs→∀ j,cg (lay c t k) j ≠ .un →
  (k≤j∧cg (lay c t k) j=chGet c (j - k)∧∃ v,cs[j - k]?=some v∧den ρ m (cg (lay c t k) j) v) ∨ ((j < k ∨ k + cs.length≤j)∧cg (lay c t k) j=cg t j):=by
 induction c with
 | nil=>intro n cs t k _ hd j _; rw [denC_nil.1 hd]; exact .inr ⟨by simp; omega,rfl⟩
 | cons a r _ ih=>
  intro n cs t k hn hd j hj
  obtain ⟨q,hq,rfl⟩:=chLen_cons hn
  obtain ⟨x,xs,rfl,h1,h2⟩:=denC_cons.1 hd
  have e:lay (.cons a r) t k=fT (cst t a k) (fun t=>lay r t (k + 1)):=rfl
  rw [fT_eq] at e
  rw [e] at hj ⊢
  rcases ih q xs (cst t a k) (k + 1) hq h2 j hj with ⟨h3,h9,v,h4,h5⟩ | ⟨h3,h4⟩
  ·refine .inl ⟨by omega,?_,v,?_,h5⟩
   ·rw [h9,show j - k=(j - (k + 1)) + 1 by omega]; rfl
   ·rwa [show j - k=(j - (k + 1)) + 1 by omega,List.getElem?_cons_succ]
  ·rw [h4] at hj ⊢
   rcases cg_cst t a k j with ⟨h6,h7 | h7⟩ | ⟨h6,h7⟩
   ·refine .inl ⟨by omega,by rw [h7,h6,Nat.sub_self]; rfl,x,by simp [h6],?_⟩
    rw [h7]; exact h1
   ·exact absurd h7 hj
   ·exact .inr ⟨by simp; omega,h7⟩
 | _=>intro n cs t k hn; cases hn
theorem over_ok {c:RV}:∀ (cs:List Value) (t t':CT) (k:Nat),over c t k=some t'→denC ρ m c cs →
  (∀ i,i < cs.length→cg t (k + i) ≠ .un)∧∀ j,cg t' j ≠ .un →
  (k≤j∧∃ v,cs[j - k]?=some v∧den ρ m (cg t' j) v) ∨ ((j < k ∨ k + cs.length≤j)∧cg t' j=cg t j):=by
 induction c with
 | nil=>
  intro cs t t' k h hd
  rw [denC_nil.1 hd]
  have h':some t=some t':=h
  cases h'
  exact ⟨by simp,fun j _=>.inr ⟨by simp; omega,rfl⟩⟩
 | cons a r _ ih=>
  intro cs t t' k h hd
  obtain ⟨x,xs,rfl,h1,h2⟩:=denC_cons.1 hd
  have e:over (.cons a r) t k=nU none (cg t k) (fun _=>fT (cst t a k) (fun t=>over r t (k + 1))):=rfl
  rw [h] at e
  obtain ⟨hu,e2⟩:=nU_ok e.symm (by simp)
  rw [fT_eq] at e2
  obtain ⟨g1,g2⟩:=ih xs (cst t a k) t' (k + 1) e2 h2
  refine ⟨fun i hi=>?_,fun j hj=>?_⟩
  ·cases i with
   | zero=>exact hu
   | succ i=>
    have:=g1 i (by simpa using hi)
    rw [show k + (i + 1)=k + 1 + i by omega]
    rcases cg_cst t a k (k + 1 + i) with ⟨h6,_⟩ | ⟨_,h7⟩
    ·omega
    ·rwa [h7] at this
  ·rcases g2 j hj with ⟨h3,v,h4,h5⟩ | ⟨h3,h4⟩
   ·refine .inl ⟨by omega,v,?_,h5⟩
    rwa [show j - k=(j - (k + 1)) + 1 by omega,List.getElem?_cons_succ]
   ·rw [h4] at hj ⊢
    rcases cg_cst t a k j with ⟨h6,h7 | h7⟩ | ⟨h6,h7⟩
    ·refine .inl ⟨by omega,x,by simp [h6],?_⟩
     rw [h7]; exact h1
    ·exact absurd h7 hj
    ·exact .inr ⟨by simp; omega,h7⟩
 | _=>intro cs t t' k h; cases h
/-! ### worlds -/
def MapK (ρ:Nat→Int) (m:Mp) (c:CT) (es:Array MapEntry):Prop:=cg c 0=.i .i64 (.ofNat es.size)∧∀ i e,es[i]?=some e→den ρ m (cg c (1 + 2 * i)) e.key∧den ρ m (cg c (2 + 2 * i)) e.val∧cg c (1 + 2 * i) ≠ .un∧cg c (2 + 2 * i) ≠ .un
theorem MapK.le {c:CT} {es:Array MapEntry} (h:MapK ρ m c es) (hl:Le m m'):MapK ρ m' c es:=⟨h.1,fun i e he=>let ⟨h1,h2,h3,h4⟩:=h.2 i e he; ⟨den_le hl h1,den_le hl h2,h3,h4⟩⟩
inductive LSt:RV→LoopState→Option Code→Prop where
 | ready:LSt (.b false) .ready none
 | busy (p:Option Code):LSt (.b true) .busy p
 | ret:LSt .nil .done (some .ret)
 | ex (id:Nat):LSt (.p id 0) .done (some (.exit id))
 | gone (p:Option Code):LSt .np .exhausted p
def LoopK (P:Program) (ρ:Nat→Int) (m:Mp) (c:CT) (rec:Loop):Prop:=∃ key s nv sv psl A B f0 nt,cg c 0=.fn key s∧LSt s rec.state rec.pending∧loopAt P key=some (f0,nt,rec.params,rec.assign,rec.body)∧compR P key=some (.r key nv sv psl A B) ∧
 nt≤rec.tmps.size∧∀ (j:Nat) (p:Pa),sv[j]?=some p→cg c (1 + j) ≠ .un→den ρ m (cg c (1 + j)) (rec.tmps.getD (p.val - 1) undef)
def ByK (c:CT) (q:Nat × Nat) (C:Array Value) (fr:Nat × Nat):Prop:=q=(0,C.size)∧(fr=(0,0) ∨ C.size≤fr.1)∧∃ l:List Nat,cg c 0=.s l∧(∀ x ∈ l,x < 256)∧l.length≤C.size∧∀ (j x:Nat),l[j]?=some x→C[j]?=some (.int .u8 x)
def Spec (P:Program) (ρ:Nat→Int) (m:Mp) (c:CT) (q:Nat × Nat):Obj→Prop
 | .map es _=>MapK ρ m c es
 | .loop rec=>LoopK P ρ m c rec
 | .cells C _ fr=>ByK c q C fr
 | _=>False
theorem Spec.le {c:CT} {q:Nat × Nat} {o:Obj} (h:Spec P ρ m c q o) (hl:Le m m'):Spec P ρ m' c q o:=by
 cases o <;> first | exact h.elim | exact MapK.le h hl | exact (h:ByK _ _ _ _) | skip
 obtain ⟨key,s,nv,sv,psl,A,B,f0,nt,h1,h2,h3,h4,h5,h6⟩:=h
 exact ⟨key,s,nv,sv,psl,A,B,f0,nt,h1,h2,h3,h4,h5,fun j p hj hu=>den_le hl (h6 j p hj hu)⟩
def At (P:Program) (ρ:Nat→Int) (m:Mp) (g b:Nat) (c:CT) (z B O Z:Nat) (w:World):Prop:=
 (z ≠ MAPZ∧∃ C el fr,w.heap[B]?=some (.cells C el fr)∧C.size=Z∧(g≤b ∨ 97≤b→fr=(0,0))∧(∀ k,z≤k→cg c k=.un)∧Knows ρ m c C O) ∨ (z=MAPZ∧∃ o,w.heap[B]?=some o∧Spec P ρ m c (O,Z) o)
theorem At.some {g b:Nat} {c:CT} {z B O Z:Nat} {w:World} (h:At P ρ m g b c z B O Z w):∃ o,w.heap[B]?=some o:=by
 rcases h with ⟨_,C,el,fr,h,_⟩ | ⟨_,o,h,_⟩ <;> exact ⟨_,h⟩
theorem At.lt {g b:Nat} {c:CT} {z B O Z:Nat} {w:World} (h:At P ρ m g b c z B O Z w):B < w.heap.size:=by
 obtain ⟨_,h⟩:=h.some
 exact (Array.getElem?_eq_some_iff.1 h).1
theorem At.move {g b:Nat} {c:CT} {z B O Z:Nat} {w w':World} (h:At P ρ m g b c z B O Z w) (e:w'.heap[B]?=w.heap[B]?) (hl:Le m m'):At P ρ m' g b c z B O Z w':=by
 rcases h with ⟨h0,C,el,fr,h1,h2,h3,h4,h5⟩ | ⟨h0,o,h1,h2⟩
 ·exact .inl ⟨h0,C,el,fr,e.trans h1,h2,h3,h4,h5.le hl⟩
 ·exact .inr ⟨h0,o,e.trans h1,h2.le hl⟩
structure Sim (P:Program) (ρ:Nat→Int) (m:Mp) (g:Nat) (h:HT) (w:World):Prop where
 cell:∀ b c z,hg h b=.bk c z→∃ B O Z,m b=some (B,O,Z)∧At P ρ m g b c z B O Z w
 inj:∀ b b' c z c' z' B O Z O' Z',hg h b=.bk c z→hg h b'=.bk c' z'→m b=some (B,O,Z)→m b'=some (B,O',Z')→b=b' ∨ (b < g∧b' < g∧(97≤b→97≤b'→O ≠ O'))
theorem Sim.inj' {g:Nat} {h:HT} {w:World} (s:Sim P ρ m g h w) {b b':Nat} {c:CT} {z:Nat} {c':CT} {z' B O Z O' Z':Nat} (h1:hg h b=.bk c z) (h2:hg h b'=.bk c' z') (h3:m b=some (B,O,Z)) (h4:m b'=some (B,O',Z')) (hg:g≤b ∨ g≤b'):b=b':=
 (s.inj b b' c z c' z' B O Z O' Z' h1 h2 h3 h4).resolve_right fun q=>by omega
theorem Sim.cells {g:Nat} {h:HT} {w:World} (s:Sim P ρ m g h w) (b:Nat) (c:CT) (z:Nat) (hb:hg h b=.bk c z) (hz:z ≠ MAPZ) :
  ∃ B O Z C el fr,m b=some (B,O,Z)∧w.heap[B]?=some (.cells C el fr)∧C.size=Z∧(g≤b ∨ 97≤b→fr=(0,0))∧(∀ k,z≤k→cg c k=.un)∧Knows ρ m c C O:=by
 obtain ⟨B,O,Z,h1,h2⟩:=s.cell b c z hb
 rcases h2 with ⟨_,C,el,fr,h2⟩ | ⟨h2,_⟩
 ·exact ⟨B,O,Z,C,el,fr,h1,h2⟩
 ·exact absurd h2 hz
def Ext (n n':Nat) (m m':Mp):Prop:=∀ b,(b < n ∨ n'≤b)→m' b=m b
def Fresh (n n':Nat) (m:Mp):Prop:=∀ b,n≤b→b < n'→m b=none
structure Keep (fl:Nat) (h:HT) (m:Mp) (w w':World):Prop where
 os:w'.os=w.os
 tape:w'.tape=w.tape
 output:w'.output=w.output
 size:w.heap.size≤w'.heap.size
 block:∀ k,k < w.heap.size→(∀ b c z O Z,fl≤b→hg h b=.bk c z→m b ≠ some (k,O,Z))→w'.heap[k]?=w.heap[k]?
 loops:∀ (k:Nat) (rec:Loop),w.heap[k]?=some (.loop rec)→∃ rec',w'.heap[k]?=some (.loop rec')
theorem setRow_loop (w:World) (B k:Nat) (C:Array Value) {r:Loop} (h:w.heap[k]?=some (.loop r)):∃ r',(w.setRow B C).heap[k]?=some (.loop r'):=by
 refine ⟨r,?_⟩
 by_cases e:k=B
 ·subst e
  show (w.heap.modify k _)[k]?=_
  rw [Array.getElem?_modify]
  simp [h]
 ·exact (setRow_other w B k C e).trans h
theorem Keep.refl (fl:Nat) (h:HT) (m:Mp) (w:World):Keep fl h m w w:=⟨rfl,rfl,rfl,Nat.le_refl _,fun _ _ _=>rfl,fun _ r h=>⟨r,h⟩⟩
theorem Keep.drew (fl:Nat) (h:HT) (m:Mp) (w:World):Keep fl h m w w.drew:=⟨rfl,rfl,rfl,Nat.le_refl _,fun _ _ _=>rfl,fun _ r h=>⟨r,h⟩⟩
theorem Ext.le {n n':Nat} (h:Ext n n' m m') (hf:Fresh n n' m):Le m m':=by
 intro b x hb
 by_cases hr:b < n ∨ n'≤b
 ·rw [h b hr]; exact hb
 ·have:=hf b (by omega) (by omega)
  rw [this] at hb; cases hb
theorem Ext.refl (n n':Nat) (m:Mp):Ext n n' m m:=fun _ _=>rfl
theorem Sim.of_heap {g:Nat} {h:HT} {w w':World} (s:Sim P ρ m g h w) (e:w'.heap=w.heap):Sim P ρ m g h w':=⟨fun b c z hb=>let ⟨B,O,Z,h1,h2⟩:=s.cell b c z hb; ⟨B,O,Z,h1,h2.move (by rw [e]) (Le.refl _)⟩,s.inj⟩
theorem Sim.sub {g:Nat} {h h':HT} {w:World} (s:Sim P ρ m g h w) (e:∀ b c z,hg h' b=.bk c z→hg h b=.bk c z):Sim P ρ m g h' w:=
 ⟨fun b c z hb=>s.cell b c z (e _ _ _ hb),fun b b' c z c' z' B O Z O' Z' h1 h2 h3 h4=>s.inj b b' c z c' z' B O Z O' Z' (e _ _ _ h1) (e _ _ _ h2) h3 h4⟩
theorem Sim.lt {g:Nat} {h:HT} {w:World} (s:Sim P ρ m g h w) {b:Nat} {c:CT} {z B O Z:Nat} (hb:hg h b=.bk c z) (hm:m b=some (B,O,Z)):B < w.heap.size:=by
 obtain ⟨B',O',Z',h1,h2⟩:=s.cell b c z hb
 rw [hm] at h1
 cases h1
 exact h2.lt
def upd (m:Mp) (n:Nat) (x:Nat × Nat × Nat):Mp:=fun b=>if b=n then some x else m b
theorem upd_le {n:Nat} {x:Nat × Nat × Nat} (hn:m n=none):Le m (upd m n x):=by
 intro b y hb
 unfold upd
 split
 ·rename_i e; rw [e,hn] at hb; cases hb
 ·exact hb
theorem upd_ext (n:Nat) (x:Nat × Nat × Nat):Ext n (n + 1) m (upd m n x):=by
 intro b hb
 unfold upd
 rw [if_neg (by omega)]
theorem upd_self (n:Nat) (x:Nat × Nat × Nat):upd m n x n=some x:=by unfold upd; rw [if_pos rfl]
theorem Sim.new {g n z:Nat} {h:HT} {w:World} (s:Sim P ρ m g h w) (hn:m n=none) (c:CT) (C:Array Value) (el:TypeId) (hmz:z ≠ MAPZ) (hz:∀ k,z≤k→cg c k=.un)
  (hk:Knows ρ (upd m n (w.heap.size,0,C.size)) c C 0):Sim P ρ (upd m n (w.heap.size,0,C.size)) g (hst h (.bk c z) n) (w.alloc (.cells C el (0,0))):=by
 have hle:Le m (upd m n (w.heap.size,0,C.size)):=upd_le hn
 have hno:∀ c z,hg h n ≠ .bk c z:=fun c z hc=>by
  obtain ⟨B,O,Z,h1,_⟩:=s.cell n c z hc
  rw [hn] at h1; cases h1
 have hold:∀ b c z,b ≠ n→hg (hst h (.bk c z) n) b=hg h b:=fun b c z hb=>by
  rcases hg_hst h (.bk c z) n b with ⟨h1,_⟩ | ⟨_,h1⟩
  ·exact absurd h1 hb
  ·exact h1
 refine ⟨fun b c' z' hb=>?_,fun b b' c1 z1 c2 z2 B O Z O' Z' h1 h2 h3 h4=>?_⟩
 ·by_cases e:b=n
  ·subst e
   rcases hg_hst h (.bk c z) b b with ⟨_,h1 | h1⟩ | ⟨h1,_⟩
   ·rw [hb] at h1
    cases h1
    exact ⟨_,_,_,upd_self _ _,.inl ⟨hmz,C,el,(0,0),heap_alloc_new _ _,rfl,fun _=>rfl,hz,hk⟩⟩
   ·rw [hb] at h1; cases h1
   ·exact absurd rfl h1
  ·rw [hold b c z e] at hb
   obtain ⟨B,O,Z,h1,h2⟩:=s.cell b c' z' hb
   exact ⟨B,O,Z,hle _ _ h1,h2.move (RowKit.Below.heap_alloc _ _ _ h2.lt) hle⟩
 ·have key:∀ b c1 z1 B O Z,b ≠ n→hg (hst h (.bk c z) n) b=.bk c1 z1→upd m n (w.heap.size,0,C.size) b=some (B,O,Z)→hg h b=.bk c1 z1∧m b=some (B,O,Z)∧B < w.heap.size:=fun b c1 z1 B O Z e h1 h3=>by
   rw [hold b c z e] at h1
   have h5:m b=some (B,O,Z):=by
    unfold upd at h3; rwa [if_neg e] at h3
   exact ⟨h1,h5,s.lt h1 h5⟩
  by_cases e:b=n
  ·by_cases e':b'=n
   ·exact .inl (by omega)
   ·obtain ⟨_,_,h5⟩:=key b' c2 z2 B O' Z' e' h2 h4
    subst e
    rw [upd_self] at h3
    cases h3
    omega
  ·by_cases e':b'=n
   ·obtain ⟨_,_,h5⟩:=key b c1 z1 B O Z e h1 h3
    subst e'
    rw [upd_self] at h4
    cases h4
    omega
   ·obtain ⟨g1,g2,_⟩:=key b c1 z1 B O Z e h1 h3
    obtain ⟨g3,g4,_⟩:=key b' c2 z2 B O' Z' e' h2 h4
    exact s.inj b b' c1 z1 c2 z2 B O Z O' Z' g1 g3 g2 g4
end Go.Rn
namespace Go.Rn
variable {ρ:Nat→Int} {m m':Mp} {P:Program}
def laid (C:Array Value) (i:Nat) (ys:List Value):Array Value:=(C.toList.take i ++ ys ++ C.toList.drop (i + ys.length)).toArray
theorem laid_size {C:Array Value} {i:Nat} {ys:List Value} (h:i + ys.length≤C.size):(laid C i ys).size=C.size:=by
 simp [laid]; omega
theorem laid_in {C:Array Value} {i:Nat} {ys:List Value} (h:i + ys.length≤C.size) {j:Nat} {v:Value} (hj:ys[j]?=some v):(laid C i ys)[i + j]?=some v:=by
 have hl:(C.toList.take i).length=i:=by simp; omega
 have hjl:j < ys.length:=by
  rcases Nat.lt_or_ge j ys.length with q | q
  ·exact q
  ·rw [List.getElem?_eq_none q] at hj; cases hj
 simp only [laid,List.getElem?_toArray]
 rw [List.append_assoc,List.getElem?_append_right (by omega),hl,List.getElem?_append_left (by omega),show i + j - i=j by omega]
 exact hj
theorem laid_out {C:Array Value} {i:Nat} {ys:List Value} (h:i + ys.length≤C.size) {j:Nat} (hj:j < i ∨ i + ys.length≤j):(laid C i ys)[j]?=C[j]?:=by
 have hl:(C.toList.take i).length=i:=by simp; omega
 simp only [laid,List.getElem?_toArray]
 rcases hj with hj | hj
 ·rw [List.append_assoc,List.getElem?_append_left (by omega),List.getElem?_take_of_lt hj,Array.getElem?_toList]
 ·rw [List.append_assoc,List.getElem?_append_right (by omega),hl,List.getElem?_append_right (by omega),List.getElem?_drop,Array.getElem?_toList]
  congr 1; omega
def Orig (fl:Nat) (h:HT) (m:Mp) (w:World) (h':HT) (m':Mp):Prop:=∀ b c z B O Z,fl≤b→hg h' b=.bk c z→m' b=some (B,O,Z)→w.heap.size≤B ∨ ∃ b0 c0 z0 O0 Z0,fl≤b0∧hg h b0=.bk c0 z0∧m b0=some (B,O0,Z0)
structure Tr (P:Program) (ρ:Nat→Int) (g fl:Nat) (h:HT) (n:Nat) (m:Mp) (w:World) (h':HT) (n':Nat) (m':Mp) (w':World):Prop where
 sim:Sim P ρ m' g h' w'
 ext:Ext n n' m m'
 keep:Keep fl h m w w'
 orig:Orig fl h m w h' m'
structure Ab (fl:Nat) (h:HT) (n:Nat) (h':HT) (n':Nat):Prop where
 le:n≤n'
 old:∀ b,b < fl→hg h' b=hg h b
 made:∀ b c z,hg h' b=.bk c z→(∃ c z,hg h b=.bk c z) ∨ (n≤b∧b < n')
theorem Ab.refl (fl:Nat) (h:HT) (n:Nat):Ab fl h n h n:=⟨Nat.le_refl _,fun _ _=>rfl,fun _ _ _ e=>.inl ⟨_,_,e⟩⟩
theorem Ab.trans {fl n n1 n2:Nat} {h h1 h2:HT} (a:Ab fl h n h1 n1) (b:Ab fl h1 n1 h2 n2):Ab fl h n h2 n2:=
 ⟨Nat.le_trans a.le b.le,fun k hk=>(b.old k hk).trans (a.old k hk),fun k c z e=>by
  rcases b.made k c z e with ⟨c1,z1,e1⟩ | ⟨h1,h2⟩
  ·rcases a.made k c1 z1 e1 with e2 | ⟨h1,h2⟩
   ·exact .inl e2
   ·exact .inr ⟨h1,Nat.lt_of_lt_of_le h2 b.le⟩
  ·exact .inr ⟨Nat.le_trans a.le h1,h2⟩⟩
theorem Ab.new {fl n:Nat} {h:HT} (x:RB) (hf:fl≤n):Ab fl h n (hst h x n) (n + 1):=by
 refine ⟨by omega,fun b hb=>?_,fun b c z e=>?_⟩
 ·rcases hg_hst h x n b with ⟨h1,_⟩ | ⟨_,h1⟩
  ·omega
  ·exact h1
 ·rcases hg_hst h x n b with ⟨h1,_⟩ | ⟨_,h1⟩
  ·exact .inr ⟨by omega,by omega⟩
  ·rw [h1] at e; exact .inl ⟨_,_,e⟩
theorem Ab.set {fl n b:Nat} {h:HT} (x:RB) (hf:fl≤b) (hd:∀ c z,x=.bk c z→∃ c z,hg h b=.bk c z):Ab fl h n (hst h x b) n:=by
 refine ⟨Nat.le_refl _,fun b' hb=>?_,fun b' c z e=>?_⟩
 ·rcases hg_hst h x b b' with ⟨h1,_⟩ | ⟨_,h1⟩
  ·omega
  ·exact h1
 ·rcases hg_hst h x b b' with ⟨h1,h2 | h2⟩ | ⟨_,h1⟩
  ·rw [h2] at e
   obtain ⟨c2,z2,h3⟩:=hd _ _ e
   rw [h1]; exact .inl ⟨_,_,h3⟩
  ·rw [h2] at e; cases e
  ·rw [h1] at e; exact .inl ⟨_,_,e⟩
theorem Tr.refl {g fl n:Nat} {h:HT} {w:World} (s:Sim P ρ m g h w):Tr P ρ g fl h n m w h n m w:=
 ⟨s,Ext.refl _ _ _,Keep.refl _ _ _ _,fun b c z _B O Z h1 h2 h3=>.inr ⟨b,c,z,O,Z,h1,h2,h3⟩⟩
theorem Tr.trans {g fl n n1 n2:Nat} {h h1 h2:HT} {m m1 m2:Mp} {w w1 w2:World} (a:Tr P ρ g fl h n m w h1 n1 m1 w1) (b:Tr P ρ g fl h1 n1 m1 w1 h2 n2 m2 w2) (l1:n≤n1) (l2:n1≤n2) :
  Tr P ρ g fl h n m w h2 n2 m2 w2:=by
 refine ⟨b.sim,fun k hk=>?_,⟨b.keep.os.trans a.keep.os,b.keep.tape.trans a.keep.tape,b.keep.output.trans a.keep.output,Nat.le_trans a.keep.size b.keep.size,fun k hk hn=>?_,fun k r h=>(let ⟨r1,h1⟩:=a.keep.loops k r h; b.keep.loops k r1 h1)⟩,fun k c z B O Z e1 e2 e3=>?_⟩
 ·rw [b.ext k (by omega),a.ext k (by omega)]
 ·rw [b.keep.block k (Nat.lt_of_lt_of_le hk a.keep.size) (fun b0 c z O Z e1 e2 e3=>?_),a.keep.block k hk hn]
  rcases a.orig b0 c z k O Z e1 e2 e3 with q | ⟨b1,c1,z1,O1,Z1,q1,q2,q3⟩
  ·omega
  ·exact hn b1 c1 z1 O1 Z1 q1 q2 q3
 ·rcases b.orig k c z B O Z e1 e2 e3 with q | ⟨b1,c1,z1,O1,Z1,q1,q2,q3⟩
  ·exact .inl (Nat.le_trans a.keep.size q)
  ·exact a.orig b1 c1 z1 B O1 Z1 q1 q2 q3
theorem Tr.drew {g fl n:Nat} {h:HT} {w:World} (s:Sim P ρ m g h w):Tr P ρ g fl h n m w h n m w.drew:=
 ⟨s.of_heap rfl,Ext.refl _ _ _,Keep.drew _ _ _ _,fun b c z _B O Z h1 h2 h3=>.inr ⟨b,c,z,O,Z,h1,h2,h3⟩⟩
theorem Tr.sub {g fl n:Nat} {h h':HT} {w:World} (s:Sim P ρ m g h w) (e:∀ b c z,hg h' b=.bk c z→hg h b=.bk c z):Tr P ρ g fl h n m w h' n m w:=
 ⟨s.sub e,Ext.refl _ _ _,Keep.refl _ _ _ _,fun b c z _B O Z h1 h2 h3=>.inr ⟨b,c,z,O,Z,h1,e _ _ _ h2,h3⟩⟩
theorem Tr.new {g fl n z:Nat} {h:HT} {w:World} (s:Sim P ρ m g h w) (hn:m n=none) (c:CT) (C:Array Value) (el:TypeId) (hmz:z ≠ MAPZ) (hz:∀ k,z≤k→cg c k=.un)
  (hk:Knows ρ (upd m n (w.heap.size,0,C.size)) c C 0):Tr P ρ g fl h n m w (hst h (.bk c z) n) (n + 1) (upd m n (w.heap.size,0,C.size)) (w.alloc (.cells C el (0,0))):=by
 refine ⟨s.new hn c C el hmz hz hk,upd_ext _ _,⟨rfl,rfl,rfl,by simp,fun k hk _=>RowKit.Below.heap_alloc _ _ _ hk,fun k r h=>⟨r,(RowKit.Below.heap_alloc _ _ _ (Array.getElem?_eq_some_iff.1 h).1).trans h⟩⟩,fun b c' z' B O Z h1 h2 h3=>?_⟩
 by_cases e:b=n
 ·subst e
  rw [upd_self] at h3
  cases h3
  exact .inl (Nat.le_refl _)
 ·unfold upd at h3
  rw [if_neg e] at h3
  rcases hg_hst h (.bk c z) n b with ⟨h4,_⟩ | ⟨_,h4⟩
  ·exact absurd h4 e
  ·rw [h4] at h2
   exact .inr ⟨b,c',z',O,Z,h1,h2,h3⟩
theorem Keep.setRow {fl b B O Z z:Nat} {h:HT} {w:World} {c:CT} {C:Array Value} (hf:fl≤b) (hb:hg h b=.bk c z) (hm:m b=some (B,O,Z)):Keep fl h m w (w.setRow B C):=
 ⟨rfl,rfl,rfl,by simp,fun k _ hn=>setRow_other w B k C (fun e=>hn b c z O Z hf hb (by rw [e]; exact hm)),fun k r h=>setRow_loop w B k C h⟩
theorem Tr.store {g fl b k z n:Nat} {h:HT} {w:World} {c c':CT} {y:RV} {ys:List Value} (s:Sim P ρ m g h w) (hb:hg h b=.bk c z) (hmz:z ≠ MAPZ) (gb:g≤b) (fb:fl≤b) (ho:over y c k=some c') (hd:denC ρ m y ys)
  (h0:ys ≠ []) (hc:∀ v ∈ ys,Cell v) :
  ∃ B O Z C el,m b=some (B,O,Z)∧w.heap[B]?=some (.cells C el (0,0))∧O + k + ys.length≤C.size∧Tr P ρ g fl h n m w (hst h (.bk c' z) b) n m (w.setRow B (laid C (O + k) ys)):=by
 obtain ⟨B,O,Z,C,el,fr,hm,hh,hZ,hfr,hz,hk⟩:=s.cells b c z hb hmz
 obtain rfl:=hfr (.inl gb)
 obtain ⟨ho1,ho2⟩:=over_ok ys c c' k ho hd
 have hl:0 < ys.length:=List.length_pos_iff.2 h0
 have hfit:O + k + ys.length≤C.size:=by
  obtain ⟨v,hv,_⟩:=hk (k + (ys.length - 1)) (ho1 _ (by omega))
  have:=(Array.getElem?_eq_some_iff.1 hv).1
  omega
 have hlt:B < w.heap.size:=(Array.getElem?_eq_some_iff.1 hh).1
 have hK:Knows ρ m c' (laid C (O + k) ys) O:=by
  intro j hj
  rcases ho2 j hj with ⟨h3,v,h4,h5⟩ | ⟨h3,h4⟩
  ·refine ⟨v,?_,h5,hc v (List.mem_of_getElem? h4)⟩
   have:=laid_in hfit h4
   rwa [show O + k + (j - k)=O + j by omega] at this
  ·rw [h4] at hj ⊢
   obtain ⟨v,hv,hdv,hcv⟩:=hk j hj
   exact ⟨v,by rw [laid_out hfit (by omega)]; exact hv,hdv,hcv⟩
 have hz':∀ j,z≤j→cg c' j=.un:=by
  intro j hj
  rcases Classical.em (cg c' j=.un) with q | q
  ·exact q
  ·rcases ho2 j q with ⟨h3,v,h4,h5⟩ | ⟨_,h4⟩
   ·have hlt2:j - k < ys.length:=by
     rcases Nat.lt_or_ge (j - k) ys.length with q | q
     ·exact q
     ·rw [List.getElem?_eq_none q] at h4; cases h4
    have:=ho1 (j - k) hlt2
    rw [show k + (j - k)=j by omega] at this
    exact absurd (hz j hj) this
   ·rw [h4]; exact hz j hj
 have hold:∀ b',b' ≠ b→hg (hst h (.bk c' z) b) b'=hg h b':=fun b' hb'=>by
  rcases hg_hst h (.bk c' z) b b' with ⟨h1,_⟩ | ⟨_,h1⟩
  ·exact absurd h1 hb'
  ·exact h1
 have hself:∀ c1 z1,hg (hst h (.bk c' z) b) b=.bk c1 z1→c1=c'∧z1=z:=fun c1 z1 e=>by
  rcases hg_hst h (.bk c' z) b b with ⟨_,h1 | h1⟩ | ⟨h1,_⟩
  ·rw [e] at h1; cases h1; exact ⟨rfl,rfl⟩
  ·rw [e] at h1; cases h1
  ·exact absurd rfl h1
 refine ⟨B,O,Z,C,el,hm,hh,hfit,⟨⟨fun b' c1 z1 e=>?_,fun b1 b2 c1 z1 c2 z2 B1 O1 Z1 O2 Z2 e1 e2 e3 e4=>?_⟩,Ext.refl _ _ _,Keep.setRow fb hb hm,fun b' c1 z1 B1 O1 Z1 e1 e2 e3=>?_⟩⟩
 ·by_cases eb:b'=b
  ·subst eb
   obtain ⟨rfl,rfl⟩:=hself _ _ e
   exact ⟨B,O,Z,hm,.inl ⟨hmz,laid C (O + k) ys,el,(0,0),setRow_heap w B C _ el (0,0) hh,by rw [laid_size hfit,hZ],fun _=>rfl,hz',hK⟩⟩
  ·rw [hold b' eb] at e
   obtain ⟨B',O',Z',q1,q2⟩:=s.cell b' c1 z1 e
   exact ⟨B',O',Z',q1,q2.move (setRow_other w B B' _ (fun eB=>by
    subst eB
    exact eb (s.inj' e hb q1 hm (.inr gb)))) (Le.refl _)⟩
 ·have key:∀ b1 c1 z1,hg (hst h (.bk c' z) b) b1=.bk c1 z1→∃ c2 z2,hg h b1=.bk c2 z2:=fun b1 c1 z1 e=>by
   by_cases eb:b1=b
   ·exact ⟨c,z,by rw [eb]; exact hb⟩
   ·rw [hold b1 eb] at e; exact ⟨_,_,e⟩
  obtain ⟨c3,z3,q1⟩:=key b1 c1 z1 e1
  obtain ⟨c4,z4,q2⟩:=key b2 c2 z2 e2
  exact s.inj b1 b2 c3 z3 c4 z4 B1 O1 Z1 O2 Z2 q1 q2 e3 e4
 ·by_cases eb:b'=b
  ·subst eb; exact .inr ⟨b',c,z,O1,Z1,e1,hb,e3⟩
  ·rw [hold b' eb] at e2; exact .inr ⟨b',c1,z1,O1,Z1,e1,e2,e3⟩
theorem Tr.room {g fl b z n B O Z i O' z':Nat} {h:HT} {w:World} {c c':CT} {C:Array Value} {el:TypeId} {ys:List Value} (s:Sim P ρ m g h w) (hb:hg h b=.bk c z) (gb:g≤b) (fb:fl≤b) (hm:m b=some (B,O,Z))
  (hh:w.heap[B]?=some (.cells C el (0,0))) (hZ:C.size=Z) (hn:m n=none) (hfit:i + ys.length≤C.size) (hf:fl≤n) (hmz:z' ≠ MAPZ) (hz':∀ k,z'≤k→cg c' k=.un)
  (hK:Knows ρ (upd m n (B,O',Z)) c' (laid C i ys) O') :
  Tr P ρ g fl h n m w (hst (hst h .no b) (.bk c' z') n) (n + 1) (upd m n (B,O',Z)) (w.setRow B (laid C i ys)):=by
 have hle:Le m (upd m n (B,O',Z)):=upd_le hn
 have hbn:b ≠ n:=fun e=>by rw [e,hn] at hm; cases hm
 have hold:∀ b' c1 z1,b' ≠ n→hg (hst (hst h .no b) (.bk c' z') n) b'=.bk c1 z1→b' ≠ b∧hg h b'=.bk c1 z1:=fun b' c1 z1 e1 e2=>by
  rcases hg_hst (hst h .no b) (.bk c' z') n b' with ⟨h1,_⟩ | ⟨_,h1⟩
  ·exact absurd h1 e1
  ·rw [h1] at e2
   rcases hg_hst h .no b b' with ⟨h2,h3 | h3⟩ | ⟨h2,h3⟩
   ·rw [h3] at e2; cases e2
   ·rw [h3] at e2; cases e2
   ·rw [h3] at e2; exact ⟨h2,e2⟩
 have hself:∀ c1 z1,hg (hst (hst h .no b) (.bk c' z') n) n=.bk c1 z1→c1=c'∧z1=z':=fun c1 z1 e=>by
  rcases hg_hst (hst h .no b) (.bk c' z') n n with ⟨_,h1 | h1⟩ | ⟨h1,_⟩
  ·rw [e] at h1; cases h1; exact ⟨rfl,rfl⟩
  ·rw [e] at h1; cases h1
  ·exact absurd rfl h1
 have hup:∀ b',b' ≠ n→upd m n (B,O',Z) b'=m b':=fun b' e=>by unfold upd; rw [if_neg e]
 refine ⟨⟨fun b' c1 z1 e=>?_,fun b1 b2 c1 z1 c2 z2 B1 O1 Z1 O2 Z2 e1 e2 e3 e4=>?_⟩,upd_ext _ _,Keep.setRow fb hb hm,fun b' c1 z1 B1 O1 Z1 e1 e2 e3=>?_⟩
 ·by_cases eb:b'=n
  ·subst eb
   obtain ⟨rfl,rfl⟩:=hself _ _ e
   exact ⟨B,O',Z,upd_self _ _,.inl ⟨hmz,laid C i ys,el,(0,0),setRow_heap w B C _ el (0,0) hh,by rw [laid_size hfit,hZ],fun _=>rfl,hz',hK⟩⟩
  ·obtain ⟨e5,e6⟩:=hold b' c1 z1 eb e
   obtain ⟨B2,O2,Z2,q1,q2⟩:=s.cell b' c1 z1 e6
   exact ⟨B2,O2,Z2,hle _ _ q1,q2.move (setRow_other w B B2 _ (fun eB=>by
    subst eB
    exact e5 (s.inj' e6 hb q1 hm (.inr gb)))) hle⟩
 ·by_cases x1:b1=n
  ·by_cases x2:b2=n
   ·exact .inl (by omega)
   ·obtain ⟨e5,e6⟩:=hold b2 c2 z2 x2 e2
    rw [hup b2 x2] at e4
    subst x1
    rw [upd_self] at e3
    cases e3
    exact absurd (s.inj' e6 hb e4 hm (.inr gb)) e5
  ·obtain ⟨e5,e6⟩:=hold b1 c1 z1 x1 e1
   rw [hup b1 x1] at e3
   by_cases x2:b2=n
   ·subst x2
    rw [upd_self] at e4
    cases e4
    exact absurd (s.inj' e6 hb e3 hm (.inr gb)) e5
   ·obtain ⟨e7,e8⟩:=hold b2 c2 z2 x2 e2
    rw [hup b2 x2] at e4
    exact s.inj b1 b2 c1 z1 c2 z2 B1 O1 Z1 O2 Z2 e6 e8 e3 e4
 ·by_cases eb:b'=n
  ·subst eb
   rw [upd_self] at e3
   cases e3
   exact .inr ⟨b,c,z,O,Z,fb,hb,hm⟩
  ·obtain ⟨_,e6⟩:=hold b' c1 z1 eb e2
   rw [hup b' eb] at e3
   exact .inr ⟨b',c1,z1,O1,Z1,e1,e6,e3⟩
theorem Tr.anew {g fl b z n B O Z B' O' z':Nat} {h:HT} {w w':World} {c c':CT} {C' C0:Array Value} {el el0:TypeId} (s:Sim P ρ m g h w) (hb:hg h b=.bk c z) (gb:g≤b) (fb:fl≤b) (hm:m b=some (B,O,Z))
  (hh0:w.heap[B]?=some (.cells C0 el0 (0,0))) (hn:m n=none) (hh:w'.heap[B']?=some (.cells C' el (0,0))) (hB:B'=B ∨ w.heap.size≤B') (h1:w'.os=w.os) (h2:w'.tape=w.tape) (h3:w'.output=w.output) (h4:w.heap.size≤w'.heap.size)
  (h5:∀ k,k < w.heap.size→k ≠ B→w'.heap[k]?=w.heap[k]?) (hmz:z' ≠ MAPZ) (hz':∀ k,z'≤k→cg c' k=.un) (hK:Knows ρ (upd m n (B',O',C'.size)) c' C' O') :
  Tr P ρ g fl h n m w (hst (hst h .no b) (.bk c' z') n) (n + 1) (upd m n (B',O',C'.size)) w':=by
 have hle:Le m (upd m n (B',O',C'.size)):=upd_le hn
 have hbn:b ≠ n:=fun e=>by rw [e,hn] at hm; cases hm
 have hold:∀ b' c1 z1,b' ≠ n→hg (hst (hst h .no b) (.bk c' z') n) b'=.bk c1 z1→b' ≠ b∧hg h b'=.bk c1 z1:=fun b' c1 z1 e1 e2=>by
  rcases hg_hst (hst h .no b) (.bk c' z') n b' with ⟨h1,_⟩ | ⟨_,h1⟩
  ·exact absurd h1 e1
  ·rw [h1] at e2
   rcases hg_hst h .no b b' with ⟨h2,h3 | h3⟩ | ⟨h2,h3⟩
   ·rw [h3] at e2; cases e2
   ·rw [h3] at e2; cases e2
   ·rw [h3] at e2; exact ⟨h2,e2⟩
 have hself:∀ c1 z1,hg (hst (hst h .no b) (.bk c' z') n) n=.bk c1 z1→c1=c'∧z1=z':=fun c1 z1 e=>by
  rcases hg_hst (hst h .no b) (.bk c' z') n n with ⟨_,h1 | h1⟩ | ⟨h1,_⟩
  ·rw [e] at h1; cases h1; exact ⟨rfl,rfl⟩
  ·rw [e] at h1; cases h1
  ·exact absurd rfl h1
 have hup:∀ b',b' ≠ n→upd m n (B',O',C'.size) b'=m b':=fun b' e=>by unfold upd; rw [if_neg e]
 have apart:∀ b2 c2 z2 O2 Z2,b2 ≠ b→hg h b2=.bk c2 z2→m b2=some (B',O2,Z2)→False:=fun b2 c2 z2 O2 Z2 e5 e6 e4=>by
  rcases hB with rfl | hB
  ·exact e5 (s.inj' e6 hb e4 hm (.inr gb))
  ·have:=s.lt e6 e4
   omega
 refine ⟨⟨fun b' c1 z1 e=>?_,fun b1 b2 c1 z1 c2 z2 B1 O1 Z1 O2 Z2 e1 e2 e3 e4=>?_⟩,upd_ext _ _,⟨h1,h2,h3,h4,fun k hk hn=>h5 k hk fun e=>hn b c z O Z fb hb (by rw [e]; exact hm),fun k r hr=>⟨r,(h5 k (Array.getElem?_eq_some_iff.1 hr).1 fun e=>?_).trans hr⟩⟩,fun b' c1 z1 B1 O1 Z1 e1 e2 e3=>?_⟩
 ·by_cases eb:b'=n
  ·subst eb
   obtain ⟨rfl,rfl⟩:=hself _ _ e
   exact ⟨B',O',C'.size,upd_self _ _,.inl ⟨hmz,C',el,(0,0),hh,rfl,fun _=>rfl,hz',hK⟩⟩
  ·obtain ⟨e5,e6⟩:=hold b' c1 z1 eb e
   obtain ⟨B2,O2,Z2,q1,q2⟩:=s.cell b' c1 z1 e6
   exact ⟨B2,O2,Z2,hle _ _ q1,q2.move (h5 B2 (s.lt e6 q1) (fun eB=>by
    subst eB
    exact e5 (s.inj' e6 hb q1 hm (.inr gb)))) hle⟩
 ·by_cases x1:b1=n
  ·by_cases x2:b2=n
   ·exact .inl (by omega)
   ·obtain ⟨e5,e6⟩:=hold b2 c2 z2 x2 e2
    rw [hup b2 x2] at e4
    subst x1
    rw [upd_self] at e3
    cases e3
    exact (apart _ _ _ _ _ e5 e6 e4).elim
  ·obtain ⟨e5,e6⟩:=hold b1 c1 z1 x1 e1
   rw [hup b1 x1] at e3
   by_cases x2:b2=n
   ·subst x2
    rw [upd_self] at e4
    cases e4
    exact (apart _ _ _ _ _ e5 e6 e3).elim
   ·obtain ⟨e7,e8⟩:=hold b2 c2 z2 x2 e2
    rw [hup b2 x2] at e4
    exact s.inj b1 b2 c1 z1 c2 z2 B1 O1 Z1 O2 Z2 e6 e8 e3 e4
 ·rw [e,hh0] at hr; cases hr
 ·by_cases eb:b'=n
  ·subst eb
   rw [upd_self] at e3
   cases e3
   rcases hB with rfl | hB
   ·exact .inr ⟨b,c,z,O,Z,fb,hb,hm⟩
   ·exact .inl hB
  ·obtain ⟨_,e6⟩:=hold b' c1 z1 eb e2
   rw [hup b' eb] at e3
   exact .inr ⟨b',c1,z1,O1,Z1,e1,e6,e3⟩
theorem run_lay {P:Program} {w:World} {B i:Nat} {C:Array Value} {el:TypeId} {ys:List Value} (hh:w.heap[B]?=some (.cells C el (0,0))) (hfit:i + ys.length≤C.size) (hc:∀ v ∈ ys,Cell v) :
  (storeCells ⟨B,i,none⟩ ys).run P w=.ok () (w.setRow B (laid C i ys)):=by
 have:=run_storeCells_at P B i el ys 0 C w hh (by simpa using hfit) hc
 simpa [laid] using this
end Go.Rn
