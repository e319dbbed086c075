/-
  One text of a symbolic evaluator over the model, shown sound once for every program: no statement is claimed here.
-/
import Derived.Test.YtendogjdmabknaaRnB
namespace Go.Rn
/-- how a quick run ends -/
inductive A where | yes | no
/-- a key's way through a tree -/
inductive Pq where | z | a (p : Pq) | b (p : Pq) | c (p : Pq) | d (p : Pq) | e
def Good (a : A) : Prop := a = .yes
theorem Good.no {p : Prop} (h : Good .no) : p := by cases h
section
noncomputable def ifA : Bool → A → A → A := @Bool.rec (fun _ => A → A → A) (fun _ n => n) (fun y _ => y)
noncomputable def cB : RV → (Bool → A) → A := @RV.rec (fun _ => (Bool → A) → A) (fun _ => .no) (fun _ => .no) (fun x0 k => k x0) (fun _ _ _ => .no) (fun _ _ _ => .no) (fun _ _ => .no) (fun _ => .no) (fun _ _ _ => .no) (fun _ => .no) (fun _ _ _ _ _ => .no) (fun _ _ _ _ _ => .no) (fun _ _ _ => .no) (fun _ => .no) (fun _ _ _ _ => .no) (fun _ => .no) (fun _ _ _ _ _ => .no) (fun _ _ _ => .no) (fun _ _ _ => .no) (fun _ _ => .no)
noncomputable def cI : RV → (IntKind → Int → A) → A := @RV.rec (fun _ => (IntKind → Int → A) → A) (fun _ => .no) (fun _ => .no) (fun _ _ => .no) (fun x0 x1 k => k x0 x1) (fun _ _ _ => .no) (fun _ _ => .no) (fun _ => .no) (fun _ _ _ => .no) (fun _ => .no) (fun _ _ _ _ _ => .no) (fun _ _ _ _ _ => .no) (fun _ _ _ => .no) (fun _ => .no) (fun _ _ _ _ => .no) (fun _ => .no) (fun _ _ _ _ _ => .no) (fun _ _ _ => .no) (fun _ _ _ => .no) (fun _ _ => .no)
noncomputable def cS : RV → (List Nat → A) → A := @RV.rec (fun _ => (List Nat → A) → A) (fun _ => .no) (fun _ => .no) (fun _ _ => .no) (fun _ _ _ => .no) (fun _ _ _ => .no) (fun x0 k => k x0) (fun _ => .no) (fun _ _ _ => .no) (fun _ => .no) (fun _ _ _ _ _ => .no) (fun _ _ _ _ _ => .no) (fun _ _ _ => .no) (fun _ => .no) (fun _ _ _ _ => .no) (fun _ => .no) (fun _ _ _ _ _ => .no) (fun _ _ _ => .no) (fun _ _ _ => .no) (fun _ _ => .no)
noncomputable def cP : RV → (Nat → Nat → A) → A := @RV.rec (fun _ => (Nat → Nat → A) → A) (fun _ => .no) (fun _ => .no) (fun _ _ => .no) (fun _ _ _ => .no) (fun _ _ _ => .no) (fun _ _ => .no) (fun _ => .no) (fun x0 x1 k => k x0 x1) (fun _ => .no) (fun _ _ _ _ _ => .no) (fun _ _ _ _ _ => .no) (fun _ _ _ => .no) (fun _ => .no) (fun _ _ _ _ => .no) (fun _ => .no) (fun _ _ _ _ _ => .no) (fun _ _ _ => .no) (fun _ _ _ => .no) (fun _ _ => .no)
noncomputable def cF : RV → (Nat → RV → A) → A := @RV.rec (fun _ => (Nat → RV → A) → A) (fun _ => .no) (fun _ => .no) (fun _ _ => .no) (fun _ _ _ => .no) (fun _ _ _ => .no) (fun _ _ => .no) (fun _ => .no) (fun _ _ _ => .no) (fun _ => .no) (fun _ _ _ _ _ => .no) (fun _ _ _ _ _ => .no) (fun _ _ _ => .no) (fun _ => .no) (fun x0 x1 _ k => k x0 x1) (fun _ => .no) (fun _ _ _ _ _ => .no) (fun _ _ _ => .no) (fun _ _ _ => .no) (fun _ _ => .no)
noncomputable def cA : RV → (RV → A) → A := @RV.rec (fun _ => (RV → A) → A) (fun _ => .no) (fun _ => .no) (fun _ _ => .no) (fun _ _ _ => .no) (fun _ _ _ => .no) (fun _ _ => .no) (fun _ => .no) (fun _ _ _ => .no) (fun _ => .no) (fun _ _ _ _ _ => .no) (fun _ _ _ _ _ => .no) (fun _ _ _ => .no) (fun _ => .no) (fun _ _ _ _ => .no) (fun _ => .no) (fun _ _ _ _ _ => .no) (fun x0 _ k => k x0) (fun _ _ _ => .no) (fun _ _ => .no)
noncomputable def cT : RV → (RV → A) → A := @RV.rec (fun _ => (RV → A) → A) (fun _ => .no) (fun _ => .no) (fun _ _ => .no) (fun _ _ _ => .no) (fun _ _ _ => .no) (fun _ _ => .no) (fun _ => .no) (fun _ _ _ => .no) (fun _ => .no) (fun _ _ _ _ _ => .no) (fun _ _ _ _ _ => .no) (fun _ _ _ => .no) (fun _ => .no) (fun _ _ _ _ => .no) (fun _ => .no) (fun _ _ _ _ _ => .no) (fun _ _ _ => .no) (fun x0 _ k => k x0) (fun _ _ => .no)
noncomputable def cMp : RV → (Nat → A) → A := @RV.rec (fun _ => (Nat → A) → A) (fun _ => .no) (fun _ => .no) (fun _ _ => .no) (fun _ _ _ => .no) (fun _ _ _ => .no) (fun _ _ => .no) (fun _ => .no) (fun _ _ _ => .no) (fun _ => .no) (fun _ _ _ _ _ => .no) (fun _ _ _ _ _ => .no) (fun _ _ _ => .no) (fun _ => .no) (fun _ _ _ _ => .no) (fun _ => .no) (fun _ _ _ _ _ => .no) (fun _ _ _ => .no) (fun _ _ _ => .no) (fun x0 k => k x0)
noncomputable def cN : RV → (RV → RV → A) → A := @RV.rec (fun _ => (RV → RV → A) → A) (fun _ => .no) (fun _ => .no) (fun _ _ => .no) (fun _ _ _ => .no) (fun _ _ _ => .no) (fun _ _ => .no) (fun _ => .no) (fun _ _ _ => .no) (fun _ => .no) (fun _ _ _ _ _ => .no) (fun _ _ _ _ _ => .no) (fun _ _ _ => .no) (fun _ => .no) (fun _ _ _ _ => .no) (fun _ => .no) (fun x0 x1 _ _ k => k x0 x1) (fun _ _ _ => .no) (fun _ _ _ => .no) (fun _ _ => .no)
noncomputable def cNn : RV → (A) → (RV → RV → A) → A := @RV.rec (fun _ => (A) → (RV → RV → A) → A) (fun _ _ => .no) (fun _ _ => .no) (fun _ _ _ => .no) (fun _ _ _ _ => .no) (fun _ _ _ _ => .no) (fun _ _ _ => .no) (fun _ _ => .no) (fun _ _ _ _ => .no) (fun _ _ => .no) (fun _ _ _ _ _ _ => .no) (fun _ _ _ _ _ _ => .no) (fun _ _ _ _ => .no) (fun _ _ => .no) (fun _ _ _ _ _ => .no) (fun k0 _ => k0) (fun x0 x1 _ _ _ k => k x0 x1) (fun _ _ _ _ => .no) (fun _ _ _ _ => .no) (fun _ _ _ => .no)
noncomputable def cU : RV → (A) → A := @RV.rec (fun _ => (A) → A) (fun _ => .no) (fun y => y) (fun _ y => y) (fun _ _ y => y) (fun _ _ y => y) (fun _ y => y) (fun y => y) (fun _ _ y => y) (fun y => y) (fun _ _ _ _ y => y) (fun _ _ _ _ y => y) (fun _ _ y => y) (fun y => y) (fun _ _ _ y => y) (fun y => y) (fun _ _ _ _ y => y) (fun _ _ y => y) (fun _ _ y => y) (fun _ y => y)
noncomputable def cUv : RV → (RV → A) → A := @RV.rec (fun _ => (RV → A) → A) (fun _ => .no) (fun k => k (.ud)) (fun x0 k => k (.b x0)) (fun x0 x1 k => k (.i x0 x1)) (fun x0 x1 k => k (.y x0 x1)) (fun x0 k => k (.s x0)) (fun k => k (.np)) (fun x0 x1 k => k (.p x0 x1)) (fun k => k (.ns)) (fun x0 x1 x2 x3 k => k (.sl x0 x1 x2 x3)) (fun x0 x1 x2 x3 k => k (.su x0 x1 x2 x3)) (fun x0 x1 k => k (.sx x0 x1)) (fun k => k (.nf)) (fun x0 x1 _ k => k (.fn x0 x1)) (fun k => k (.nil)) (fun x0 x1 _ _ k => k (.cons x0 x1)) (fun x0 _ k => k (.agg x0)) (fun x0 _ k => k (.tup x0)) (fun x0 k => k (.mp x0))
noncomputable def cL : RV → (A) → (Nat → Nat → Nat → Nat → A) → (Nat → Nat → Nat → Nat → A) → (Nat → Nat → A) → A := @RV.rec (fun _ => (A) → (Nat → Nat → Nat → Nat → A) → (Nat → Nat → Nat → Nat → A) → (Nat → Nat → A) → A) (fun _ _ _ _ => .no) (fun _ _ _ _ => .no) (fun _ _ _ _ _ => .no) (fun _ _ _ _ _ _ => .no) (fun _ _ _ _ _ _ => .no) (fun _ _ _ _ _ => .no) (fun _ _ _ _ => .no) (fun _ _ _ _ _ _ => .no) (fun k0 _ _ _ => k0) (fun x0 x1 x2 x3 _ k1 _ _ => k1 x0 x1 x2 x3) (fun x0 x1 x2 x3 _ _ k2 _ => k2 x0 x1 x2 x3) (fun x0 x1 _ _ _ k3 => k3 x0 x1) (fun _ _ _ _ => .no) (fun _ _ _ _ _ _ _ => .no) (fun _ _ _ _ => .no) (fun _ _ _ _ _ _ _ _ => .no) (fun _ _ _ _ _ _ => .no) (fun _ _ _ _ _ _ => .no) (fun _ _ _ _ _ => .no)
noncomputable def cC : RV → (RV → A) → (A) → A := @RV.rec (fun _ => (RV → A) → (A) → A) (fun _ _ => .no) (fun _ _ => .no) (fun _ _ k1 => k1) (fun _ _ _ k1 => k1) (fun _ _ _ k1 => k1) (fun _ _ k1 => k1) (fun _ k1 => k1) (fun _ _ _ k1 => k1) (fun _ k1 => k1) (fun _ _ _ _ _ k1 => k1) (fun _ _ _ _ _ k1 => k1) (fun _ _ _ k1 => k1) (fun _ k1 => k1) (fun _ _ _ _ k1 => k1) (fun _ _ => .no) (fun _ _ _ _ _ _ => .no) (fun x0 _ k _ => k x0) (fun _ _ _ _ => .no) (fun _ _ k1 => k1)
noncomputable def cNc : RV → (A) → A := @RV.rec (fun _ => (A) → A) (fun _ => .no) (fun _ => .no) (fun _ _ => .no) (fun _ _ _ => .no) (fun _ _ _ => .no) (fun _ _ => .no) (fun _ => .no) (fun _ _ y => y) (fun _ => .no) (fun _ _ _ _ _ => .no) (fun _ _ _ _ _ => .no) (fun _ _ _ => .no) (fun _ => .no) (fun x0 x1 _ y => ifA (Nat.ble 33554432 x0) (cN x1 fun _ _ => y) y) (fun _ => .no) (fun _ _ _ _ _ => .no) (fun _ _ _ => .no) (fun _ _ _ => .no) (fun _ _ => .no)
noncomputable def cNil : RV → (Nat → Bool → A) → A := @RV.rec (fun _ => (Nat → Bool → A) → A) (fun _ => .no) (fun _ => .no) (fun _ _ => .no) (fun _ _ _ => .no) (fun _ _ _ => .no) (fun _ _ => .no) (fun k => k 0 true) (fun _ _ k => k 0 false) (fun k => k 1 true) (fun _ _ _ _ k => k 1 false) (fun _ _ _ _ k => k 1 false) (fun _ _ k => k 1 false) (fun k => k 2 true) (fun x0 _ _ k => ifA (Nat.ble 33554432 x0) .no (k 2 false)) (fun _ => .no) (fun _ _ _ _ _ => .no) (fun _ _ _ => .no) (fun _ _ _ => .no) (fun _ _ => .no)
noncomputable def cG : RV → (Bool) → (A) → (A) → A := @RV.rec (fun _ => (Bool) → (A) → (A) → A) (fun _ _ _ => .no) (fun _ _ n => n) (fun x0 w y n => ifA (eqB x0 w) y n) (fun _ _ _ _ _ => .no) (fun _ _ _ _ _ => .no) (fun _ _ _ _ => .no) (fun _ _ _ => .no) (fun _ _ _ _ _ => .no) (fun _ _ _ => .no) (fun _ _ _ _ _ _ _ => .no) (fun _ _ _ _ _ _ _ => .no) (fun _ _ _ _ _ => .no) (fun _ _ _ => .no) (fun _ _ _ _ _ _ => .no) (fun _ _ _ => .no) (fun _ _ _ _ _ _ _ => .no) (fun _ _ _ _ _ => .no) (fun _ _ _ _ _ => .no) (fun _ _ _ _ => .no)
noncomputable def cY : RV → (IntKind → SE → A) → (IntKind → Int → A) → A := @RV.rec (fun _ => (IntKind → SE → A) → (IntKind → Int → A) → A) (fun _ _ => .no) (fun _ _ => .no) (fun _ _ _ => .no) (fun x0 x1 _ ki => ki x0 x1) (fun x0 x1 k _ => k x0 x1) (fun _ _ _ => .no) (fun _ _ => .no) (fun _ _ _ _ => .no) (fun _ _ => .no) (fun _ _ _ _ _ _ => .no) (fun _ _ _ _ _ _ => .no) (fun _ _ _ _ => .no) (fun _ _ => .no) (fun _ _ _ _ _ => .no) (fun _ _ => .no) (fun _ _ _ _ _ _ => .no) (fun _ _ _ _ => .no) (fun _ _ _ _ => .no) (fun _ _ _ => .no)
noncomputable def iN : Int → (Nat → A) → A → A := @Int.rec (fun _ => (Nat → A) → A → A) (fun m k _ => k m) (fun _ _ s => s)
noncomputable def k64 : IntKind → A → A → A → A := @IntKind.rec (fun _ => A → A → A → A) (fun _ _ s => s) (fun _ _ s => s) (fun _ _ s => s) (fun i _ _ => i) (fun _ _ s => s) (fun _ _ s => s) (fun _ _ s => s) (fun _ u _ => u)
noncomputable def cM : RV → (Nat → A) → (Nat → A) → A → A := @RV.rec (fun _ => (Nat → A) → (Nat → A) → A → A) (fun _ _ s => s) (fun _ _ s => s) (fun _ _ _ s => s) (fun j z ki ku s => iN z (fun m => k64 j (ki m) (ku m) s) s) (fun _ _ _ _ s => s) (fun _ _ _ s => s) (fun _ _ s => s) (fun _ _ _ _ s => s) (fun _ _ s => s) (fun _ _ _ _ _ _ s => s) (fun _ _ _ _ _ _ s => s) (fun _ _ _ _ s => s) (fun _ _ s => s) (fun _ _ _ _ _ s => s) (fun _ _ s => s) (fun _ _ _ _ _ _ s => s) (fun _ _ _ _ s => s) (fun _ _ _ _ s => s) (fun _ _ _ s => s)
noncomputable def cK : RV → (Nat → A) → A := @RV.rec (fun _ => (Nat → A) → A) (fun _ => .no) (fun _ => .no) (fun _ _ => .no) (fun _ x1 k => iN x1 k .no) (fun _ _ _ => .no) (fun _ _ => .no) (fun _ => .no) (fun _ _ _ => .no) (fun _ => .no) (fun _ _ _ _ _ => .no) (fun _ _ _ _ _ => .no) (fun _ _ _ => .no) (fun _ => .no) (fun _ _ _ _ => .no) (fun _ => .no) (fun _ _ _ _ _ => .no) (fun _ _ _ => .no) (fun _ _ _ => .no) (fun _ _ => .no)
noncomputable def frc (r : Nat) (k : Nat → A) : A := @Nat.rec (fun _ => A) (k 0) (fun q _ => k (Nat.succ q)) r
noncomputable def cON : Option Nat → (Nat → A) → A := @Option.rec Nat (fun _ => (Nat → A) → A) (fun _ => .no) (fun x k => k x)
noncomputable def cOV : Option RV → A → (RV → A) → A := @Option.rec RV (fun _ => A → (RV → A) → A) (fun n _ => n) (fun x _ k => k x)
noncomputable def mkBk : Bool → (RV → A) → A := @Bool.rec (fun _ => (RV → A) → A) (fun k => k (.b false)) (fun k => k (.b true))
/-! trees of closures -/
abbrev Nd (X T : Type) : Type := (X → T → T → T → T → A) → A
noncomputable def fourW : Nat → Pq → Pq := @Nat.rec (fun _ => Pq → Pq) (fun p => .a p) (fun r _ => @Nat.rec (fun _ => Pq → Pq) (fun p => .b p) (fun r _ => @Nat.rec (fun _ => Pq → Pq) (fun p => .c p) (fun _ _ p => .d p) r) r)
noncomputable def pathF : Nat → Nat → Pq := @Nat.rec (fun _ => Nat → Pq) (@Nat.rec (fun _ => Pq) .z (fun _ _ => .e)) (fun _ ih => @Nat.rec (fun _ => Pq) .z (fun q _ => fourW (Nat.mod q 4) (ih (Nat.div q 4))))
noncomputable def stG (X T : Type) (ih : Pq → T → (X → A) → A) : Pq → Nd X T → (X → A) → A := @Pq.rec (fun _ => Nd X T → (X → A) → A) (fun t k => t fun v _ _ _ _ => k v) (fun q _ t k => t fun _ x _ _ _ => ih q x k) (fun q _ t k => t fun _ _ x _ _ => ih q x k) (fun q _ t k => t fun _ _ _ x _ => ih q x k) (fun q _ t k => t fun _ _ _ _ x => ih q x k) (fun _ _ => .no)
noncomputable def stS (X T : Type) (ih : Pq → T → (X → (X → A) → A) → (T → A) → A) : Pq → Nd X T → (X → (X → A) → A) → (Nd X T → A) → A := @Pq.rec (fun _ => Nd X T → (X → (X → A) → A) → (Nd X T → A) → A) (fun t u k => t fun v a b c d => u v fun x => k (fun s => s x a b c d)) (fun q _ t u k => t fun v a b c d => ih q a u fun y => k (fun s => s v y b c d)) (fun q _ t u k => t fun v a b c d => ih q b u fun y => k (fun s => s v a y c d)) (fun q _ t u k => t fun v a b c d => ih q c u fun y => k (fun s => s v a b y d)) (fun q _ t u k => t fun v a b c d => ih q d u fun y => k (fun s => s v a b c y)) (fun _ _ _ => .no)
def CT0 : Type := A
noncomputable def getC0 : Pq → CT0 → (RV → A) → A := fun _ _ _ => .no
noncomputable def updC0 : Pq → CT0 → (RV → (RV → A) → A) → (CT0 → A) → A := fun _ _ _ _ => .no
noncomputable def emC0 : CT0 := A.no
def CT1 : Type := Nd RV CT0
noncomputable def getC1 : Pq → CT1 → (RV → A) → A := @Pq.rec (fun _ => CT1 → (RV → A) → A) (fun t k => t fun v _ _ _ _ => k v) (fun q _ t k => t fun _ x _ _ _ => getC0 q x k) (fun q _ t k => t fun _ _ x _ _ => getC0 q x k) (fun q _ t k => t fun _ _ _ x _ => getC0 q x k) (fun q _ t k => t fun _ _ _ _ x => getC0 q x k) (fun _ _ => .no)
noncomputable def updC1 : Pq → CT1 → (RV → (RV → A) → A) → (CT1 → A) → A := @Pq.rec (fun _ => CT1 → (RV → (RV → A) → A) → (CT1 → A) → A) (fun t u k => t fun v a b c d => u v fun x => k (fun s => s x a b c d)) (fun q _ t u k => t fun v a b c d => updC0 q a u fun y => k (fun s => s v y b c d)) (fun q _ t u k => t fun v a b c d => updC0 q b u fun y => k (fun s => s v a y c d)) (fun q _ t u k => t fun v a b c d => updC0 q c u fun y => k (fun s => s v a b y d)) (fun q _ t u k => t fun v a b c d => updC0 q d u fun y => k (fun s => s v a b c y)) (fun _ _ _ => .no)
noncomputable def emC1 : CT1 := fun s => s .un emC0 emC0 emC0 emC0
def CT2 : Type := Nd RV CT1
noncomputable def getC2 : Pq → CT2 → (RV → A) → A := @Pq.rec (fun _ => CT2 → (RV → A) → A) (fun t k => t fun v _ _ _ _ => k v) (fun q _ t k => t fun _ x _ _ _ => getC1 q x k) (fun q _ t k => t fun _ _ x _ _ => getC1 q x k) (fun q _ t k => t fun _ _ _ x _ => getC1 q x k) (fun q _ t k => t fun _ _ _ _ x => getC1 q x k) (fun _ _ => .no)
noncomputable def updC2 : Pq → CT2 → (RV → (RV → A) → A) → (CT2 → A) → A := @Pq.rec (fun _ => CT2 → (RV → (RV → A) → A) → (CT2 → A) → A) (fun t u k => t fun v a b c d => u v fun x => k (fun s => s x a b c d)) (fun q _ t u k => t fun v a b c d => updC1 q a u fun y => k (fun s => s v y b c d)) (fun q _ t u k => t fun v a b c d => updC1 q b u fun y => k (fun s => s v a y c d)) (fun q _ t u k => t fun v a b c d => updC1 q c u fun y => k (fun s => s v a b y d)) (fun q _ t u k => t fun v a b c d => updC1 q d u fun y => k (fun s => s v a b c y)) (fun _ _ _ => .no)
noncomputable def emC2 : CT2 := fun s => s .un emC1 emC1 emC1 emC1
def CT3 : Type := Nd RV CT2
noncomputable def getC3 : Pq → CT3 → (RV → A) → A := @Pq.rec (fun _ => CT3 → (RV → A) → A) (fun t k => t fun v _ _ _ _ => k v) (fun q _ t k => t fun _ x _ _ _ => getC2 q x k) (fun q _ t k => t fun _ _ x _ _ => getC2 q x k) (fun q _ t k => t fun _ _ _ x _ => getC2 q x k) (fun q _ t k => t fun _ _ _ _ x => getC2 q x k) (fun _ _ => .no)
noncomputable def updC3 : Pq → CT3 → (RV → (RV → A) → A) → (CT3 → A) → A := @Pq.rec (fun _ => CT3 → (RV → (RV → A) → A) → (CT3 → A) → A) (fun t u k => t fun v a b c d => u v fun x => k (fun s => s x a b c d)) (fun q _ t u k => t fun v a b c d => updC2 q a u fun y => k (fun s => s v y b c d)) (fun q _ t u k => t fun v a b c d => updC2 q b u fun y => k (fun s => s v a y c d)) (fun q _ t u k => t fun v a b c d => updC2 q c u fun y => k (fun s => s v a b y d)) (fun q _ t u k => t fun v a b c d => updC2 q d u fun y => k (fun s => s v a b c y)) (fun _ _ _ => .no)
noncomputable def emC3 : CT3 := fun s => s .un emC2 emC2 emC2 emC2
def CT4 : Type := Nd RV CT3
noncomputable def getC4 : Pq → CT4 → (RV → A) → A := @Pq.rec (fun _ => CT4 → (RV → A) → A) (fun t k => t fun v _ _ _ _ => k v) (fun q _ t k => t fun _ x _ _ _ => getC3 q x k) (fun q _ t k => t fun _ _ x _ _ => getC3 q x k) (fun q _ t k => t fun _ _ _ x _ => getC3 q x k) (fun q _ t k => t fun _ _ _ _ x => getC3 q x k) (fun _ _ => .no)
noncomputable def updC4 : Pq → CT4 → (RV → (RV → A) → A) → (CT4 → A) → A := @Pq.rec (fun _ => CT4 → (RV → (RV → A) → A) → (CT4 → A) → A) (fun t u k => t fun v a b c d => u v fun x => k (fun s => s x a b c d)) (fun q _ t u k => t fun v a b c d => updC3 q a u fun y => k (fun s => s v y b c d)) (fun q _ t u k => t fun v a b c d => updC3 q b u fun y => k (fun s => s v a y c d)) (fun q _ t u k => t fun v a b c d => updC3 q c u fun y => k (fun s => s v a b y d)) (fun q _ t u k => t fun v a b c d => updC3 q d u fun y => k (fun s => s v a b c y)) (fun _ _ _ => .no)
noncomputable def emC4 : CT4 := fun s => s .un emC3 emC3 emC3 emC3
def CT5 : Type := Nd RV CT4
noncomputable def getC5 : Pq → CT5 → (RV → A) → A := @Pq.rec (fun _ => CT5 → (RV → A) → A) (fun t k => t fun v _ _ _ _ => k v) (fun q _ t k => t fun _ x _ _ _ => getC4 q x k) (fun q _ t k => t fun _ _ x _ _ => getC4 q x k) (fun q _ t k => t fun _ _ _ x _ => getC4 q x k) (fun q _ t k => t fun _ _ _ _ x => getC4 q x k) (fun _ _ => .no)
noncomputable def updC5 : Pq → CT5 → (RV → (RV → A) → A) → (CT5 → A) → A := @Pq.rec (fun _ => CT5 → (RV → (RV → A) → A) → (CT5 → A) → A) (fun t u k => t fun v a b c d => u v fun x => k (fun s => s x a b c d)) (fun q _ t u k => t fun v a b c d => updC4 q a u fun y => k (fun s => s v y b c d)) (fun q _ t u k => t fun v a b c d => updC4 q b u fun y => k (fun s => s v a y c d)) (fun q _ t u k => t fun v a b c d => updC4 q c u fun y => k (fun s => s v a b y d)) (fun q _ t u k => t fun v a b c d => updC4 q d u fun y => k (fun s => s v a b c y)) (fun _ _ _ => .no)
noncomputable def emC5 : CT5 := fun s => s .un emC4 emC4 emC4 emC4
def CT6 : Type := Nd RV CT5
noncomputable def getC6 : Pq → CT6 → (RV → A) → A := @Pq.rec (fun _ => CT6 → (RV → A) → A) (fun t k => t fun v _ _ _ _ => k v) (fun q _ t k => t fun _ x _ _ _ => getC5 q x k) (fun q _ t k => t fun _ _ x _ _ => getC5 q x k) (fun q _ t k => t fun _ _ _ x _ => getC5 q x k) (fun q _ t k => t fun _ _ _ _ x => getC5 q x k) (fun _ _ => .no)
noncomputable def updC6 : Pq → CT6 → (RV → (RV → A) → A) → (CT6 → A) → A := @Pq.rec (fun _ => CT6 → (RV → (RV → A) → A) → (CT6 → A) → A) (fun t u k => t fun v a b c d => u v fun x => k (fun s => s x a b c d)) (fun q _ t u k => t fun v a b c d => updC5 q a u fun y => k (fun s => s v y b c d)) (fun q _ t u k => t fun v a b c d => updC5 q b u fun y => k (fun s => s v a y c d)) (fun q _ t u k => t fun v a b c d => updC5 q c u fun y => k (fun s => s v a b y d)) (fun q _ t u k => t fun v a b c d => updC5 q d u fun y => k (fun s => s v a b c y)) (fun _ _ _ => .no)
noncomputable def emC6 : CT6 := fun s => s .un emC5 emC5 emC5 emC5
def CT7 : Type := Nd RV CT6
noncomputable def getC7 : Pq → CT7 → (RV → A) → A := @Pq.rec (fun _ => CT7 → (RV → A) → A) (fun t k => t fun v _ _ _ _ => k v) (fun q _ t k => t fun _ x _ _ _ => getC6 q x k) (fun q _ t k => t fun _ _ x _ _ => getC6 q x k) (fun q _ t k => t fun _ _ _ x _ => getC6 q x k) (fun q _ t k => t fun _ _ _ _ x => getC6 q x k) (fun _ _ => .no)
noncomputable def updC7 : Pq → CT7 → (RV → (RV → A) → A) → (CT7 → A) → A := @Pq.rec (fun _ => CT7 → (RV → (RV → A) → A) → (CT7 → A) → A) (fun t u k => t fun v a b c d => u v fun x => k (fun s => s x a b c d)) (fun q _ t u k => t fun v a b c d => updC6 q a u fun y => k (fun s => s v y b c d)) (fun q _ t u k => t fun v a b c d => updC6 q b u fun y => k (fun s => s v a y c d)) (fun q _ t u k => t fun v a b c d => updC6 q c u fun y => k (fun s => s v a b y d)) (fun q _ t u k => t fun v a b c d => updC6 q d u fun y => k (fun s => s v a b c y)) (fun _ _ _ => .no)
noncomputable def emC7 : CT7 := fun s => s .un emC6 emC6 emC6 emC6
abbrev C3 := CT7
/-- a block: none | a map | a row of cells -/
abbrev B3 := A → (C3 → A) → (C3 → Nat → A) → A
noncomputable def noB : B3 := fun n _ _ => n
noncomputable def mpB (c : C3) : B3 := fun _ k _ => k c
noncomputable def bkB (c : C3) (z : Nat) : B3 := fun _ _ k => k c z
def HT0 : Type := A
noncomputable def getH0 : Pq → HT0 → (B3 → A) → A := fun _ _ _ => .no
noncomputable def updH0 : Pq → HT0 → (B3 → (B3 → A) → A) → (HT0 → A) → A := fun _ _ _ _ => .no
noncomputable def emH0 : HT0 := A.no
def HT1 : Type := Nd B3 HT0
noncomputable def getH1 : Pq → HT1 → (B3 → A) → A := @Pq.rec (fun _ => HT1 → (B3 → A) → A) (fun t k => t fun v _ _ _ _ => k v) (fun q _ t k => t fun _ x _ _ _ => getH0 q x k) (fun q _ t k => t fun _ _ x _ _ => getH0 q x k) (fun q _ t k => t fun _ _ _ x _ => getH0 q x k) (fun q _ t k => t fun _ _ _ _ x => getH0 q x k) (fun _ _ => .no)
noncomputable def updH1 : Pq → HT1 → (B3 → (B3 → A) → A) → (HT1 → A) → A := @Pq.rec (fun _ => HT1 → (B3 → (B3 → A) → A) → (HT1 → A) → A) (fun t u k => t fun v a b c d => u v fun x => k (fun s => s x a b c d)) (fun q _ t u k => t fun v a b c d => updH0 q a u fun y => k (fun s => s v y b c d)) (fun q _ t u k => t fun v a b c d => updH0 q b u fun y => k (fun s => s v a y c d)) (fun q _ t u k => t fun v a b c d => updH0 q c u fun y => k (fun s => s v a b y d)) (fun q _ t u k => t fun v a b c d => updH0 q d u fun y => k (fun s => s v a b c y)) (fun _ _ _ => .no)
noncomputable def emH1 : HT1 := fun s => s noB emH0 emH0 emH0 emH0
def HT2 : Type := Nd B3 HT1
noncomputable def getH2 : Pq → HT2 → (B3 → A) → A := @Pq.rec (fun _ => HT2 → (B3 → A) → A) (fun t k => t fun v _ _ _ _ => k v) (fun q _ t k => t fun _ x _ _ _ => getH1 q x k) (fun q _ t k => t fun _ _ x _ _ => getH1 q x k) (fun q _ t k => t fun _ _ _ x _ => getH1 q x k) (fun q _ t k => t fun _ _ _ _ x => getH1 q x k) (fun _ _ => .no)
noncomputable def updH2 : Pq → HT2 → (B3 → (B3 → A) → A) → (HT2 → A) → A := @Pq.rec (fun _ => HT2 → (B3 → (B3 → A) → A) → (HT2 → A) → A) (fun t u k => t fun v a b c d => u v fun x => k (fun s => s x a b c d)) (fun q _ t u k => t fun v a b c d => updH1 q a u fun y => k (fun s => s v y b c d)) (fun q _ t u k => t fun v a b c d => updH1 q b u fun y => k (fun s => s v a y c d)) (fun q _ t u k => t fun v a b c d => updH1 q c u fun y => k (fun s => s v a b y d)) (fun q _ t u k => t fun v a b c d => updH1 q d u fun y => k (fun s => s v a b c y)) (fun _ _ _ => .no)
noncomputable def emH2 : HT2 := fun s => s noB emH1 emH1 emH1 emH1
def HT3 : Type := Nd B3 HT2
noncomputable def getH3 : Pq → HT3 → (B3 → A) → A := @Pq.rec (fun _ => HT3 → (B3 → A) → A) (fun t k => t fun v _ _ _ _ => k v) (fun q _ t k => t fun _ x _ _ _ => getH2 q x k) (fun q _ t k => t fun _ _ x _ _ => getH2 q x k) (fun q _ t k => t fun _ _ _ x _ => getH2 q x k) (fun q _ t k => t fun _ _ _ _ x => getH2 q x k) (fun _ _ => .no)
noncomputable def updH3 : Pq → HT3 → (B3 → (B3 → A) → A) → (HT3 → A) → A := @Pq.rec (fun _ => HT3 → (B3 → (B3 → A) → A) → (HT3 → A) → A) (fun t u k => t fun v a b c d => u v fun x => k (fun s => s x a b c d)) (fun q _ t u k => t fun v a b c d => updH2 q a u fun y => k (fun s => s v y b c d)) (fun q _ t u k => t fun v a b c d => updH2 q b u fun y => k (fun s => s v a y c d)) (fun q _ t u k => t fun v a b c d => updH2 q c u fun y => k (fun s => s v a b y d)) (fun q _ t u k => t fun v a b c d => updH2 q d u fun y => k (fun s => s v a b c y)) (fun _ _ _ => .no)
noncomputable def emH3 : HT3 := fun s => s noB emH2 emH2 emH2 emH2
def HT4 : Type := Nd B3 HT3
noncomputable def getH4 : Pq → HT4 → (B3 → A) → A := @Pq.rec (fun _ => HT4 → (B3 → A) → A) (fun t k => t fun v _ _ _ _ => k v) (fun q _ t k => t fun _ x _ _ _ => getH3 q x k) (fun q _ t k => t fun _ _ x _ _ => getH3 q x k) (fun q _ t k => t fun _ _ _ x _ => getH3 q x k) (fun q _ t k => t fun _ _ _ _ x => getH3 q x k) (fun _ _ => .no)
noncomputable def updH4 : Pq → HT4 → (B3 → (B3 → A) → A) → (HT4 → A) → A := @Pq.rec (fun _ => HT4 → (B3 → (B3 → A) → A) → (HT4 → A) → A) (fun t u k => t fun v a b c d => u v fun x => k (fun s => s x a b c d)) (fun q _ t u k => t fun v a b c d => updH3 q a u fun y => k (fun s => s v y b c d)) (fun q _ t u k => t fun v a b c d => updH3 q b u fun y => k (fun s => s v a y c d)) (fun q _ t u k => t fun v a b c d => updH3 q c u fun y => k (fun s => s v a b y d)) (fun q _ t u k => t fun v a b c d => updH3 q d u fun y => k (fun s => s v a b c y)) (fun _ _ _ => .no)
noncomputable def emH4 : HT4 := fun s => s noB emH3 emH3 emH3 emH3
def HT5 : Type := Nd B3 HT4
noncomputable def getH5 : Pq → HT5 → (B3 → A) → A := @Pq.rec (fun _ => HT5 → (B3 → A) → A) (fun t k => t fun v _ _ _ _ => k v) (fun q _ t k => t fun _ x _ _ _ => getH4 q x k) (fun q _ t k => t fun _ _ x _ _ => getH4 q x k) (fun q _ t k => t fun _ _ _ x _ => getH4 q x k) (fun q _ t k => t fun _ _ _ _ x => getH4 q x k) (fun _ _ => .no)
noncomputable def updH5 : Pq → HT5 → (B3 → (B3 → A) → A) → (HT5 → A) → A := @Pq.rec (fun _ => HT5 → (B3 → (B3 → A) → A) → (HT5 → A) → A) (fun t u k => t fun v a b c d => u v fun x => k (fun s => s x a b c d)) (fun q _ t u k => t fun v a b c d => updH4 q a u fun y => k (fun s => s v y b c d)) (fun q _ t u k => t fun v a b c d => updH4 q b u fun y => k (fun s => s v a y c d)) (fun q _ t u k => t fun v a b c d => updH4 q c u fun y => k (fun s => s v a b y d)) (fun q _ t u k => t fun v a b c d => updH4 q d u fun y => k (fun s => s v a b c y)) (fun _ _ _ => .no)
noncomputable def emH5 : HT5 := fun s => s noB emH4 emH4 emH4 emH4
def HT6 : Type := Nd B3 HT5
noncomputable def getH6 : Pq → HT6 → (B3 → A) → A := @Pq.rec (fun _ => HT6 → (B3 → A) → A) (fun t k => t fun v _ _ _ _ => k v) (fun q _ t k => t fun _ x _ _ _ => getH5 q x k) (fun q _ t k => t fun _ _ x _ _ => getH5 q x k) (fun q _ t k => t fun _ _ _ x _ => getH5 q x k) (fun q _ t k => t fun _ _ _ _ x => getH5 q x k) (fun _ _ => .no)
noncomputable def updH6 : Pq → HT6 → (B3 → (B3 → A) → A) → (HT6 → A) → A := @Pq.rec (fun _ => HT6 → (B3 → (B3 → A) → A) → (HT6 → A) → A) (fun t u k => t fun v a b c d => u v fun x => k (fun s => s x a b c d)) (fun q _ t u k => t fun v a b c d => updH5 q a u fun y => k (fun s => s v y b c d)) (fun q _ t u k => t fun v a b c d => updH5 q b u fun y => k (fun s => s v a y c d)) (fun q _ t u k => t fun v a b c d => updH5 q c u fun y => k (fun s => s v a b y d)) (fun q _ t u k => t fun v a b c d => updH5 q d u fun y => k (fun s => s v a b c y)) (fun _ _ _ => .no)
noncomputable def emH6 : HT6 := fun s => s noB emH5 emH5 emH5 emH5
def HT7 : Type := Nd B3 HT6
noncomputable def getH7 : Pq → HT7 → (B3 → A) → A := @Pq.rec (fun _ => HT7 → (B3 → A) → A) (fun t k => t fun v _ _ _ _ => k v) (fun q _ t k => t fun _ x _ _ _ => getH6 q x k) (fun q _ t k => t fun _ _ x _ _ => getH6 q x k) (fun q _ t k => t fun _ _ _ x _ => getH6 q x k) (fun q _ t k => t fun _ _ _ _ x => getH6 q x k) (fun _ _ => .no)
noncomputable def updH7 : Pq → HT7 → (B3 → (B3 → A) → A) → (HT7 → A) → A := @Pq.rec (fun _ => HT7 → (B3 → (B3 → A) → A) → (HT7 → A) → A) (fun t u k => t fun v a b c d => u v fun x => k (fun s => s x a b c d)) (fun q _ t u k => t fun v a b c d => updH6 q a u fun y => k (fun s => s v y b c d)) (fun q _ t u k => t fun v a b c d => updH6 q b u fun y => k (fun s => s v a y c d)) (fun q _ t u k => t fun v a b c d => updH6 q c u fun y => k (fun s => s v a b y d)) (fun q _ t u k => t fun v a b c d => updH6 q d u fun y => k (fun s => s v a b c y)) (fun _ _ _ => .no)
noncomputable def emH7 : HT7 := fun s => s noB emH6 emH6 emH6 emH6
def HT8 : Type := Nd B3 HT7
noncomputable def getH8 : Pq → HT8 → (B3 → A) → A := @Pq.rec (fun _ => HT8 → (B3 → A) → A) (fun t k => t fun v _ _ _ _ => k v) (fun q _ t k => t fun _ x _ _ _ => getH7 q x k) (fun q _ t k => t fun _ _ x _ _ => getH7 q x k) (fun q _ t k => t fun _ _ _ x _ => getH7 q x k) (fun q _ t k => t fun _ _ _ _ x => getH7 q x k) (fun _ _ => .no)
noncomputable def updH8 : Pq → HT8 → (B3 → (B3 → A) → A) → (HT8 → A) → A := @Pq.rec (fun _ => HT8 → (B3 → (B3 → A) → A) → (HT8 → A) → A) (fun t u k => t fun v a b c d => u v fun x => k (fun s => s x a b c d)) (fun q _ t u k => t fun v a b c d => updH7 q a u fun y => k (fun s => s v y b c d)) (fun q _ t u k => t fun v a b c d => updH7 q b u fun y => k (fun s => s v a y c d)) (fun q _ t u k => t fun v a b c d => updH7 q c u fun y => k (fun s => s v a b y d)) (fun q _ t u k => t fun v a b c d => updH7 q d u fun y => k (fun s => s v a b c y)) (fun _ _ _ => .no)
noncomputable def emH8 : HT8 := fun s => s noB emH7 emH7 emH7 emH7
def HT9 : Type := Nd B3 HT8
noncomputable def getH9 : Pq → HT9 → (B3 → A) → A := @Pq.rec (fun _ => HT9 → (B3 → A) → A) (fun t k => t fun v _ _ _ _ => k v) (fun q _ t k => t fun _ x _ _ _ => getH8 q x k) (fun q _ t k => t fun _ _ x _ _ => getH8 q x k) (fun q _ t k => t fun _ _ _ x _ => getH8 q x k) (fun q _ t k => t fun _ _ _ _ x => getH8 q x k) (fun _ _ => .no)
noncomputable def updH9 : Pq → HT9 → (B3 → (B3 → A) → A) → (HT9 → A) → A := @Pq.rec (fun _ => HT9 → (B3 → (B3 → A) → A) → (HT9 → A) → A) (fun t u k => t fun v a b c d => u v fun x => k (fun s => s x a b c d)) (fun q _ t u k => t fun v a b c d => updH8 q a u fun y => k (fun s => s v y b c d)) (fun q _ t u k => t fun v a b c d => updH8 q b u fun y => k (fun s => s v a y c d)) (fun q _ t u k => t fun v a b c d => updH8 q c u fun y => k (fun s => s v a b y d)) (fun q _ t u k => t fun v a b c d => updH8 q d u fun y => k (fun s => s v a b c y)) (fun _ _ _ => .no)
noncomputable def emH9 : HT9 := fun s => s noB emH8 emH8 emH8 emH8
abbrev H3 := HT9
noncomputable def cget (c : C3) (o : Nat) (k : RV → A) : A := getC7 (pathF 12 o) c k
noncomputable def cupd (c : C3) (o : Nat) (u : RV → (RV → A) → A) (k : C3 → A) : A := updC7 (pathF 12 o) c u k
noncomputable def hget (h : H3) (b : Nat) (k : B3 → A) : A := getH9 (pathF 12 b) h k
noncomputable def hupd (h : H3) (b : Nat) (u : B3 → (B3 → A) → A) (k : H3 → A) : A := updH9 (pathF 12 b) h u k
noncomputable def ce3 : C3 := emC7
noncomputable def he3 : H3 := emH9
/-! frames of closures: 64 slots in two steps, 512 more in four -/
abbrev L8 := (RV → RV → RV → RV → RV → RV → RV → RV → A) → A
abbrev M8 := (L8 → L8 → L8 → L8 → L8 → L8 → L8 → L8 → A) → A
abbrev N8 := (M8 → M8 → M8 → M8 → M8 → M8 → M8 → M8 → A) → A
abbrev F3 := (L8 → L8 → L8 → L8 → L8 → L8 → L8 → L8 → N8 → A) → A
abbrev G3 := F3 → (RV → A) → A
abbrev S3 := F3 → RV → (F3 → A) → A
inductive Gw where | mk (g : G3)
inductive Sw where | mk (g : S3)
noncomputable def mkL (f : Nat → RV) (o : Nat) : L8 := fun k => k (f o) (f (o+1)) (f (o+2)) (f (o+3)) (f (o+4)) (f (o+5)) (f (o+6)) (f (o+7))
noncomputable def mkM (f : Nat → RV) (o : Nat) : M8 := fun k => k (mkL f o) (mkL f (o+8)) (mkL f (o+16)) (mkL f (o+24)) (mkL f (o+32)) (mkL f (o+40)) (mkL f (o+48)) (mkL f (o+56))
noncomputable def mkN (f : Nat → RV) (o : Nat) : N8 := fun k => k (mkM f o) (mkM f (o+64)) (mkM f (o+128)) (mkM f (o+192)) (mkM f (o+256)) (mkM f (o+320)) (mkM f (o+384)) (mkM f (o+448))
noncomputable def mkF (f : Nat → RV) : F3 := fun k => k (mkL f 0) (mkL f 8) (mkL f 16) (mkL f 24) (mkL f 32) (mkL f 40) (mkL f 48) (mkL f 56) (mkN f 64)
noncomputable def l0 : L8 := fun k => k .un .un .un .un .un .un .un .un
noncomputable def mm0 : M8 := fun k => k l0 l0 l0 l0 l0 l0 l0 l0
noncomputable def nn0 : N8 := fun k => k mm0 mm0 mm0 mm0 mm0 mm0 mm0 mm0
noncomputable def f0 : F3 := fun k => k l0 l0 l0 l0 l0 l0 l0 l0 nn0
noncomputable def gs00 : G3 := fun t k => t fun a _ _ _ _ _ _ _ _ => a fun y _ _ _ _ _ _ _ => k y
noncomputable def ss00 : S3 := fun t y k => t fun a b c d e f g h n => a fun _ q r s t u v x => k (fun z => z (fun z => z y q r s t u v x) b c d e f g h n)
noncomputable def gs01 : G3 := fun t k => t fun a _ _ _ _ _ _ _ _ => a fun _ y _ _ _ _ _ _ => k y
noncomputable def ss01 : S3 := fun t y k => t fun a b c d e f g h n => a fun p _ r s t u v x => k (fun z => z (fun z => z p y r s t u v x) b c d e f g h n)
noncomputable def gs02 : G3 := fun t k => t fun a _ _ _ _ _ _ _ _ => a fun _ _ y _ _ _ _ _ => k y
noncomputable def ss02 : S3 := fun t y k => t fun a b c d e f g h n => a fun p q _ s t u v x => k (fun z => z (fun z => z p q y s t u v x) b c d e f g h n)
noncomputable def gs03 : G3 := fun t k => t fun a _ _ _ _ _ _ _ _ => a fun _ _ _ y _ _ _ _ => k y
noncomputable def ss03 : S3 := fun t y k => t fun a b c d e f g h n => a fun p q r _ t u v x => k (fun z => z (fun z => z p q r y t u v x) b c d e f g h n)
noncomputable def gs04 : G3 := fun t k => t fun a _ _ _ _ _ _ _ _ => a fun _ _ _ _ y _ _ _ => k y
noncomputable def ss04 : S3 := fun t y k => t fun a b c d e f g h n => a fun p q r s _ u v x => k (fun z => z (fun z => z p q r s y u v x) b c d e f g h n)
noncomputable def gs05 : G3 := fun t k => t fun a _ _ _ _ _ _ _ _ => a fun _ _ _ _ _ y _ _ => k y
noncomputable def ss05 : S3 := fun t y k => t fun a b c d e f g h n => a fun p q r s t _ v x => k (fun z => z (fun z => z p q r s t y v x) b c d e f g h n)
noncomputable def gs06 : G3 := fun t k => t fun a _ _ _ _ _ _ _ _ => a fun _ _ _ _ _ _ y _ => k y
noncomputable def ss06 : S3 := fun t y k => t fun a b c d e f g h n => a fun p q r s t u _ x => k (fun z => z (fun z => z p q r s t u y x) b c d e f g h n)
noncomputable def gs07 : G3 := fun t k => t fun a _ _ _ _ _ _ _ _ => a fun _ _ _ _ _ _ _ y => k y
noncomputable def ss07 : S3 := fun t y k => t fun a b c d e f g h n => a fun p q r s t u v _ => k (fun z => z (fun z => z p q r s t u v y) b c d e f g h n)
noncomputable def gs10 : G3 := fun t k => t fun _ b _ _ _ _ _ _ _ => b fun y _ _ _ _ _ _ _ => k y
noncomputable def ss10 : S3 := fun t y k => t fun a b c d e f g h n => b fun _ q r s t u v x => k (fun z => z a (fun z => z y q r s t u v x) c d e f g h n)
noncomputable def gs11 : G3 := fun t k => t fun _ b _ _ _ _ _ _ _ => b fun _ y _ _ _ _ _ _ => k y
noncomputable def ss11 : S3 := fun t y k => t fun a b c d e f g h n => b fun p _ r s t u v x => k (fun z => z a (fun z => z p y r s t u v x) c d e f g h n)
noncomputable def gs12 : G3 := fun t k => t fun _ b _ _ _ _ _ _ _ => b fun _ _ y _ _ _ _ _ => k y
noncomputable def ss12 : S3 := fun t y k => t fun a b c d e f g h n => b fun p q _ s t u v x => k (fun z => z a (fun z => z p q y s t u v x) c d e f g h n)
noncomputable def gs13 : G3 := fun t k => t fun _ b _ _ _ _ _ _ _ => b fun _ _ _ y _ _ _ _ => k y
noncomputable def ss13 : S3 := fun t y k => t fun a b c d e f g h n => b fun p q r _ t u v x => k (fun z => z a (fun z => z p q r y t u v x) c d e f g h n)
noncomputable def gs14 : G3 := fun t k => t fun _ b _ _ _ _ _ _ _ => b fun _ _ _ _ y _ _ _ => k y
noncomputable def ss14 : S3 := fun t y k => t fun a b c d e f g h n => b fun p q r s _ u v x => k (fun z => z a (fun z => z p q r s y u v x) c d e f g h n)
noncomputable def gs15 : G3 := fun t k => t fun _ b _ _ _ _ _ _ _ => b fun _ _ _ _ _ y _ _ => k y
noncomputable def ss15 : S3 := fun t y k => t fun a b c d e f g h n => b fun p q r s t _ v x => k (fun z => z a (fun z => z p q r s t y v x) c d e f g h n)
noncomputable def gs16 : G3 := fun t k => t fun _ b _ _ _ _ _ _ _ => b fun _ _ _ _ _ _ y _ => k y
noncomputable def ss16 : S3 := fun t y k => t fun a b c d e f g h n => b fun p q r s t u _ x => k (fun z => z a (fun z => z p q r s t u y x) c d e f g h n)
noncomputable def gs17 : G3 := fun t k => t fun _ b _ _ _ _ _ _ _ => b fun _ _ _ _ _ _ _ y => k y
noncomputable def ss17 : S3 := fun t y k => t fun a b c d e f g h n => b fun p q r s t u v _ => k (fun z => z a (fun z => z p q r s t u v y) c d e f g h n)
noncomputable def gs20 : G3 := fun t k => t fun _ _ c _ _ _ _ _ _ => c fun y _ _ _ _ _ _ _ => k y
noncomputable def ss20 : S3 := fun t y k => t fun a b c d e f g h n => c fun _ q r s t u v x => k (fun z => z a b (fun z => z y q r s t u v x) d e f g h n)
noncomputable def gs21 : G3 := fun t k => t fun _ _ c _ _ _ _ _ _ => c fun _ y _ _ _ _ _ _ => k y
noncomputable def ss21 : S3 := fun t y k => t fun a b c d e f g h n => c fun p _ r s t u v x => k (fun z => z a b (fun z => z p y r s t u v x) d e f g h n)
noncomputable def gs22 : G3 := fun t k => t fun _ _ c _ _ _ _ _ _ => c fun _ _ y _ _ _ _ _ => k y
noncomputable def ss22 : S3 := fun t y k => t fun a b c d e f g h n => c fun p q _ s t u v x => k (fun z => z a b (fun z => z p q y s t u v x) d e f g h n)
noncomputable def gs23 : G3 := fun t k => t fun _ _ c _ _ _ _ _ _ => c fun _ _ _ y _ _ _ _ => k y
noncomputable def ss23 : S3 := fun t y k => t fun a b c d e f g h n => c fun p q r _ t u v x => k (fun z => z a b (fun z => z p q r y t u v x) d e f g h n)
noncomputable def gs24 : G3 := fun t k => t fun _ _ c _ _ _ _ _ _ => c fun _ _ _ _ y _ _ _ => k y
noncomputable def ss24 : S3 := fun t y k => t fun a b c d e f g h n => c fun p q r s _ u v x => k (fun z => z a b (fun z => z p q r s y u v x) d e f g h n)
noncomputable def gs25 : G3 := fun t k => t fun _ _ c _ _ _ _ _ _ => c fun _ _ _ _ _ y _ _ => k y
noncomputable def ss25 : S3 := fun t y k => t fun a b c d e f g h n => c fun p q r s t _ v x => k (fun z => z a b (fun z => z p q r s t y v x) d e f g h n)
noncomputable def gs26 : G3 := fun t k => t fun _ _ c _ _ _ _ _ _ => c fun _ _ _ _ _ _ y _ => k y
noncomputable def ss26 : S3 := fun t y k => t fun a b c d e f g h n => c fun p q r s t u _ x => k (fun z => z a b (fun z => z p q r s t u y x) d e f g h n)
noncomputable def gs27 : G3 := fun t k => t fun _ _ c _ _ _ _ _ _ => c fun _ _ _ _ _ _ _ y => k y
noncomputable def ss27 : S3 := fun t y k => t fun a b c d e f g h n => c fun p q r s t u v _ => k (fun z => z a b (fun z => z p q r s t u v y) d e f g h n)
noncomputable def gs30 : G3 := fun t k => t fun _ _ _ d _ _ _ _ _ => d fun y _ _ _ _ _ _ _ => k y
noncomputable def ss30 : S3 := fun t y k => t fun a b c d e f g h n => d fun _ q r s t u v x => k (fun z => z a b c (fun z => z y q r s t u v x) e f g h n)
noncomputable def gs31 : G3 := fun t k => t fun _ _ _ d _ _ _ _ _ => d fun _ y _ _ _ _ _ _ => k y
noncomputable def ss31 : S3 := fun t y k => t fun a b c d e f g h n => d fun p _ r s t u v x => k (fun z => z a b c (fun z => z p y r s t u v x) e f g h n)
noncomputable def gs32 : G3 := fun t k => t fun _ _ _ d _ _ _ _ _ => d fun _ _ y _ _ _ _ _ => k y
noncomputable def ss32 : S3 := fun t y k => t fun a b c d e f g h n => d fun p q _ s t u v x => k (fun z => z a b c (fun z => z p q y s t u v x) e f g h n)
noncomputable def gs33 : G3 := fun t k => t fun _ _ _ d _ _ _ _ _ => d fun _ _ _ y _ _ _ _ => k y
noncomputable def ss33 : S3 := fun t y k => t fun a b c d e f g h n => d fun p q r _ t u v x => k (fun z => z a b c (fun z => z p q r y t u v x) e f g h n)
noncomputable def gs34 : G3 := fun t k => t fun _ _ _ d _ _ _ _ _ => d fun _ _ _ _ y _ _ _ => k y
noncomputable def ss34 : S3 := fun t y k => t fun a b c d e f g h n => d fun p q r s _ u v x => k (fun z => z a b c (fun z => z p q r s y u v x) e f g h n)
noncomputable def gs35 : G3 := fun t k => t fun _ _ _ d _ _ _ _ _ => d fun _ _ _ _ _ y _ _ => k y
noncomputable def ss35 : S3 := fun t y k => t fun a b c d e f g h n => d fun p q r s t _ v x => k (fun z => z a b c (fun z => z p q r s t y v x) e f g h n)
noncomputable def gs36 : G3 := fun t k => t fun _ _ _ d _ _ _ _ _ => d fun _ _ _ _ _ _ y _ => k y
noncomputable def ss36 : S3 := fun t y k => t fun a b c d e f g h n => d fun p q r s t u _ x => k (fun z => z a b c (fun z => z p q r s t u y x) e f g h n)
noncomputable def gs37 : G3 := fun t k => t fun _ _ _ d _ _ _ _ _ => d fun _ _ _ _ _ _ _ y => k y
noncomputable def ss37 : S3 := fun t y k => t fun a b c d e f g h n => d fun p q r s t u v _ => k (fun z => z a b c (fun z => z p q r s t u v y) e f g h n)
noncomputable def gs40 : G3 := fun t k => t fun _ _ _ _ e _ _ _ _ => e fun y _ _ _ _ _ _ _ => k y
noncomputable def ss40 : S3 := fun t y k => t fun a b c d e f g h n => e fun _ q r s t u v x => k (fun z => z a b c d (fun z => z y q r s t u v x) f g h n)
noncomputable def gs41 : G3 := fun t k => t fun _ _ _ _ e _ _ _ _ => e fun _ y _ _ _ _ _ _ => k y
noncomputable def ss41 : S3 := fun t y k => t fun a b c d e f g h n => e fun p _ r s t u v x => k (fun z => z a b c d (fun z => z p y r s t u v x) f g h n)
noncomputable def gs42 : G3 := fun t k => t fun _ _ _ _ e _ _ _ _ => e fun _ _ y _ _ _ _ _ => k y
noncomputable def ss42 : S3 := fun t y k => t fun a b c d e f g h n => e fun p q _ s t u v x => k (fun z => z a b c d (fun z => z p q y s t u v x) f g h n)
noncomputable def gs43 : G3 := fun t k => t fun _ _ _ _ e _ _ _ _ => e fun _ _ _ y _ _ _ _ => k y
noncomputable def ss43 : S3 := fun t y k => t fun a b c d e f g h n => e fun p q r _ t u v x => k (fun z => z a b c d (fun z => z p q r y t u v x) f g h n)
noncomputable def gs44 : G3 := fun t k => t fun _ _ _ _ e _ _ _ _ => e fun _ _ _ _ y _ _ _ => k y
noncomputable def ss44 : S3 := fun t y k => t fun a b c d e f g h n => e fun p q r s _ u v x => k (fun z => z a b c d (fun z => z p q r s y u v x) f g h n)
noncomputable def gs45 : G3 := fun t k => t fun _ _ _ _ e _ _ _ _ => e fun _ _ _ _ _ y _ _ => k y
noncomputable def ss45 : S3 := fun t y k => t fun a b c d e f g h n => e fun p q r s t _ v x => k (fun z => z a b c d (fun z => z p q r s t y v x) f g h n)
noncomputable def gs46 : G3 := fun t k => t fun _ _ _ _ e _ _ _ _ => e fun _ _ _ _ _ _ y _ => k y
noncomputable def ss46 : S3 := fun t y k => t fun a b c d e f g h n => e fun p q r s t u _ x => k (fun z => z a b c d (fun z => z p q r s t u y x) f g h n)
noncomputable def gs47 : G3 := fun t k => t fun _ _ _ _ e _ _ _ _ => e fun _ _ _ _ _ _ _ y => k y
noncomputable def ss47 : S3 := fun t y k => t fun a b c d e f g h n => e fun p q r s t u v _ => k (fun z => z a b c d (fun z => z p q r s t u v y) f g h n)
noncomputable def gs50 : G3 := fun t k => t fun _ _ _ _ _ f _ _ _ => f fun y _ _ _ _ _ _ _ => k y
noncomputable def ss50 : S3 := fun t y k => t fun a b c d e f g h n => f fun _ q r s t u v x => k (fun z => z a b c d e (fun z => z y q r s t u v x) g h n)
noncomputable def gs51 : G3 := fun t k => t fun _ _ _ _ _ f _ _ _ => f fun _ y _ _ _ _ _ _ => k y
noncomputable def ss51 : S3 := fun t y k => t fun a b c d e f g h n => f fun p _ r s t u v x => k (fun z => z a b c d e (fun z => z p y r s t u v x) g h n)
noncomputable def gs52 : G3 := fun t k => t fun _ _ _ _ _ f _ _ _ => f fun _ _ y _ _ _ _ _ => k y
noncomputable def ss52 : S3 := fun t y k => t fun a b c d e f g h n => f fun p q _ s t u v x => k (fun z => z a b c d e (fun z => z p q y s t u v x) g h n)
noncomputable def gs53 : G3 := fun t k => t fun _ _ _ _ _ f _ _ _ => f fun _ _ _ y _ _ _ _ => k y
noncomputable def ss53 : S3 := fun t y k => t fun a b c d e f g h n => f fun p q r _ t u v x => k (fun z => z a b c d e (fun z => z p q r y t u v x) g h n)
noncomputable def gs54 : G3 := fun t k => t fun _ _ _ _ _ f _ _ _ => f fun _ _ _ _ y _ _ _ => k y
noncomputable def ss54 : S3 := fun t y k => t fun a b c d e f g h n => f fun p q r s _ u v x => k (fun z => z a b c d e (fun z => z p q r s y u v x) g h n)
noncomputable def gs55 : G3 := fun t k => t fun _ _ _ _ _ f _ _ _ => f fun _ _ _ _ _ y _ _ => k y
noncomputable def ss55 : S3 := fun t y k => t fun a b c d e f g h n => f fun p q r s t _ v x => k (fun z => z a b c d e (fun z => z p q r s t y v x) g h n)
noncomputable def gs56 : G3 := fun t k => t fun _ _ _ _ _ f _ _ _ => f fun _ _ _ _ _ _ y _ => k y
noncomputable def ss56 : S3 := fun t y k => t fun a b c d e f g h n => f fun p q r s t u _ x => k (fun z => z a b c d e (fun z => z p q r s t u y x) g h n)
noncomputable def gs57 : G3 := fun t k => t fun _ _ _ _ _ f _ _ _ => f fun _ _ _ _ _ _ _ y => k y
noncomputable def ss57 : S3 := fun t y k => t fun a b c d e f g h n => f fun p q r s t u v _ => k (fun z => z a b c d e (fun z => z p q r s t u v y) g h n)
noncomputable def gs60 : G3 := fun t k => t fun _ _ _ _ _ _ g _ _ => g fun y _ _ _ _ _ _ _ => k y
noncomputable def ss60 : S3 := fun t y k => t fun a b c d e f g h n => g fun _ q r s t u v x => k (fun z => z a b c d e f (fun z => z y q r s t u v x) h n)
noncomputable def gs61 : G3 := fun t k => t fun _ _ _ _ _ _ g _ _ => g fun _ y _ _ _ _ _ _ => k y
noncomputable def ss61 : S3 := fun t y k => t fun a b c d e f g h n => g fun p _ r s t u v x => k (fun z => z a b c d e f (fun z => z p y r s t u v x) h n)
noncomputable def gs62 : G3 := fun t k => t fun _ _ _ _ _ _ g _ _ => g fun _ _ y _ _ _ _ _ => k y
noncomputable def ss62 : S3 := fun t y k => t fun a b c d e f g h n => g fun p q _ s t u v x => k (fun z => z a b c d e f (fun z => z p q y s t u v x) h n)
noncomputable def gs63 : G3 := fun t k => t fun _ _ _ _ _ _ g _ _ => g fun _ _ _ y _ _ _ _ => k y
noncomputable def ss63 : S3 := fun t y k => t fun a b c d e f g h n => g fun p q r _ t u v x => k (fun z => z a b c d e f (fun z => z p q r y t u v x) h n)
noncomputable def gs64 : G3 := fun t k => t fun _ _ _ _ _ _ g _ _ => g fun _ _ _ _ y _ _ _ => k y
noncomputable def ss64 : S3 := fun t y k => t fun a b c d e f g h n => g fun p q r s _ u v x => k (fun z => z a b c d e f (fun z => z p q r s y u v x) h n)
noncomputable def gs65 : G3 := fun t k => t fun _ _ _ _ _ _ g _ _ => g fun _ _ _ _ _ y _ _ => k y
noncomputable def ss65 : S3 := fun t y k => t fun a b c d e f g h n => g fun p q r s t _ v x => k (fun z => z a b c d e f (fun z => z p q r s t y v x) h n)
noncomputable def gs66 : G3 := fun t k => t fun _ _ _ _ _ _ g _ _ => g fun _ _ _ _ _ _ y _ => k y
noncomputable def ss66 : S3 := fun t y k => t fun a b c d e f g h n => g fun p q r s t u _ x => k (fun z => z a b c d e f (fun z => z p q r s t u y x) h n)
noncomputable def gs67 : G3 := fun t k => t fun _ _ _ _ _ _ g _ _ => g fun _ _ _ _ _ _ _ y => k y
noncomputable def ss67 : S3 := fun t y k => t fun a b c d e f g h n => g fun p q r s t u v _ => k (fun z => z a b c d e f (fun z => z p q r s t u v y) h n)
noncomputable def gs70 : G3 := fun t k => t fun _ _ _ _ _ _ _ h _ => h fun y _ _ _ _ _ _ _ => k y
noncomputable def ss70 : S3 := fun t y k => t fun a b c d e f g h n => h fun _ q r s t u v x => k (fun z => z a b c d e f g (fun z => z y q r s t u v x) n)
noncomputable def gs71 : G3 := fun t k => t fun _ _ _ _ _ _ _ h _ => h fun _ y _ _ _ _ _ _ => k y
noncomputable def ss71 : S3 := fun t y k => t fun a b c d e f g h n => h fun p _ r s t u v x => k (fun z => z a b c d e f g (fun z => z p y r s t u v x) n)
noncomputable def gs72 : G3 := fun t k => t fun _ _ _ _ _ _ _ h _ => h fun _ _ y _ _ _ _ _ => k y
noncomputable def ss72 : S3 := fun t y k => t fun a b c d e f g h n => h fun p q _ s t u v x => k (fun z => z a b c d e f g (fun z => z p q y s t u v x) n)
noncomputable def gs73 : G3 := fun t k => t fun _ _ _ _ _ _ _ h _ => h fun _ _ _ y _ _ _ _ => k y
noncomputable def ss73 : S3 := fun t y k => t fun a b c d e f g h n => h fun p q r _ t u v x => k (fun z => z a b c d e f g (fun z => z p q r y t u v x) n)
noncomputable def gs74 : G3 := fun t k => t fun _ _ _ _ _ _ _ h _ => h fun _ _ _ _ y _ _ _ => k y
noncomputable def ss74 : S3 := fun t y k => t fun a b c d e f g h n => h fun p q r s _ u v x => k (fun z => z a b c d e f g (fun z => z p q r s y u v x) n)
noncomputable def gs75 : G3 := fun t k => t fun _ _ _ _ _ _ _ h _ => h fun _ _ _ _ _ y _ _ => k y
noncomputable def ss75 : S3 := fun t y k => t fun a b c d e f g h n => h fun p q r s t _ v x => k (fun z => z a b c d e f g (fun z => z p q r s t y v x) n)
noncomputable def gs76 : G3 := fun t k => t fun _ _ _ _ _ _ _ h _ => h fun _ _ _ _ _ _ y _ => k y
noncomputable def ss76 : S3 := fun t y k => t fun a b c d e f g h n => h fun p q r s t u _ x => k (fun z => z a b c d e f g (fun z => z p q r s t u y x) n)
noncomputable def gs77 : G3 := fun t k => t fun _ _ _ _ _ _ _ h _ => h fun _ _ _ _ _ _ _ y => k y
noncomputable def ss77 : S3 := fun t y k => t fun a b c d e f g h n => h fun p q r s t u v _ => k (fun z => z a b c d e f g (fun z => z p q r s t u v y) n)
noncomputable def pN0 : N8 → (M8 → A) → A := fun t k => t fun y _ _ _ _ _ _ _ => k y
noncomputable def pN1 : N8 → (M8 → A) → A := fun t k => t fun _ y _ _ _ _ _ _ => k y
noncomputable def pN2 : N8 → (M8 → A) → A := fun t k => t fun _ _ y _ _ _ _ _ => k y
noncomputable def pN3 : N8 → (M8 → A) → A := fun t k => t fun _ _ _ y _ _ _ _ => k y
noncomputable def pN4 : N8 → (M8 → A) → A := fun t k => t fun _ _ _ _ y _ _ _ => k y
noncomputable def pN5 : N8 → (M8 → A) → A := fun t k => t fun _ _ _ _ _ y _ _ => k y
noncomputable def pN6 : N8 → (M8 → A) → A := fun t k => t fun _ _ _ _ _ _ y _ => k y
noncomputable def pN7 : N8 → (M8 → A) → A := fun t k => t fun _ _ _ _ _ _ _ y => k y
noncomputable def pM0 : M8 → (L8 → A) → A := fun t k => t fun y _ _ _ _ _ _ _ => k y
noncomputable def pM1 : M8 → (L8 → A) → A := fun t k => t fun _ y _ _ _ _ _ _ => k y
noncomputable def pM2 : M8 → (L8 → A) → A := fun t k => t fun _ _ y _ _ _ _ _ => k y
noncomputable def pM3 : M8 → (L8 → A) → A := fun t k => t fun _ _ _ y _ _ _ _ => k y
noncomputable def pM4 : M8 → (L8 → A) → A := fun t k => t fun _ _ _ _ y _ _ _ => k y
noncomputable def pM5 : M8 → (L8 → A) → A := fun t k => t fun _ _ _ _ _ y _ _ => k y
noncomputable def pM6 : M8 → (L8 → A) → A := fun t k => t fun _ _ _ _ _ _ y _ => k y
noncomputable def pM7 : M8 → (L8 → A) → A := fun t k => t fun _ _ _ _ _ _ _ y => k y
noncomputable def pL0 : L8 → (RV → A) → A := fun t k => t fun y _ _ _ _ _ _ _ => k y
noncomputable def pL1 : L8 → (RV → A) → A := fun t k => t fun _ y _ _ _ _ _ _ => k y
noncomputable def pL2 : L8 → (RV → A) → A := fun t k => t fun _ _ y _ _ _ _ _ => k y
noncomputable def pL3 : L8 → (RV → A) → A := fun t k => t fun _ _ _ y _ _ _ _ => k y
noncomputable def pL4 : L8 → (RV → A) → A := fun t k => t fun _ _ _ _ y _ _ _ => k y
noncomputable def pL5 : L8 → (RV → A) → A := fun t k => t fun _ _ _ _ _ y _ _ => k y
noncomputable def pL6 : L8 → (RV → A) → A := fun t k => t fun _ _ _ _ _ _ y _ => k y
noncomputable def pL7 : L8 → (RV → A) → A := fun t k => t fun _ _ _ _ _ _ _ y => k y
noncomputable def uN0 : N8 → (M8 → (M8 → A) → A) → (N8 → A) → A := fun t u k => t fun a b c d e f g h => u a fun y => k (fun s => s y b c d e f g h)
noncomputable def uN1 : N8 → (M8 → (M8 → A) → A) → (N8 → A) → A := fun t u k => t fun a b c d e f g h => u b fun y => k (fun s => s a y c d e f g h)
noncomputable def uN2 : N8 → (M8 → (M8 → A) → A) → (N8 → A) → A := fun t u k => t fun a b c d e f g h => u c fun y => k (fun s => s a b y d e f g h)
noncomputable def uN3 : N8 → (M8 → (M8 → A) → A) → (N8 → A) → A := fun t u k => t fun a b c d e f g h => u d fun y => k (fun s => s a b c y e f g h)
noncomputable def uN4 : N8 → (M8 → (M8 → A) → A) → (N8 → A) → A := fun t u k => t fun a b c d e f g h => u e fun y => k (fun s => s a b c d y f g h)
noncomputable def uN5 : N8 → (M8 → (M8 → A) → A) → (N8 → A) → A := fun t u k => t fun a b c d e f g h => u f fun y => k (fun s => s a b c d e y g h)
noncomputable def uN6 : N8 → (M8 → (M8 → A) → A) → (N8 → A) → A := fun t u k => t fun a b c d e f g h => u g fun y => k (fun s => s a b c d e f y h)
noncomputable def uN7 : N8 → (M8 → (M8 → A) → A) → (N8 → A) → A := fun t u k => t fun a b c d e f g h => u h fun y => k (fun s => s a b c d e f g y)
noncomputable def uM0 : M8 → (L8 → (L8 → A) → A) → (M8 → A) → A := fun t u k => t fun a b c d e f g h => u a fun y => k (fun s => s y b c d e f g h)
noncomputable def uM1 : M8 → (L8 → (L8 → A) → A) → (M8 → A) → A := fun t u k => t fun a b c d e f g h => u b fun y => k (fun s => s a y c d e f g h)
noncomputable def uM2 : M8 → (L8 → (L8 → A) → A) → (M8 → A) → A := fun t u k => t fun a b c d e f g h => u c fun y => k (fun s => s a b y d e f g h)
noncomputable def uM3 : M8 → (L8 → (L8 → A) → A) → (M8 → A) → A := fun t u k => t fun a b c d e f g h => u d fun y => k (fun s => s a b c y e f g h)
noncomputable def uM4 : M8 → (L8 → (L8 → A) → A) → (M8 → A) → A := fun t u k => t fun a b c d e f g h => u e fun y => k (fun s => s a b c d y f g h)
noncomputable def uM5 : M8 → (L8 → (L8 → A) → A) → (M8 → A) → A := fun t u k => t fun a b c d e f g h => u f fun y => k (fun s => s a b c d e y g h)
noncomputable def uM6 : M8 → (L8 → (L8 → A) → A) → (M8 → A) → A := fun t u k => t fun a b c d e f g h => u g fun y => k (fun s => s a b c d e f y h)
noncomputable def uM7 : M8 → (L8 → (L8 → A) → A) → (M8 → A) → A := fun t u k => t fun a b c d e f g h => u h fun y => k (fun s => s a b c d e f g y)
noncomputable def uL0 : L8 → (RV → (RV → A) → A) → (L8 → A) → A := fun t u k => t fun a b c d e f g h => u a fun y => k (fun s => s y b c d e f g h)
noncomputable def uL1 : L8 → (RV → (RV → A) → A) → (L8 → A) → A := fun t u k => t fun a b c d e f g h => u b fun y => k (fun s => s a y c d e f g h)
noncomputable def uL2 : L8 → (RV → (RV → A) → A) → (L8 → A) → A := fun t u k => t fun a b c d e f g h => u c fun y => k (fun s => s a b y d e f g h)
noncomputable def uL3 : L8 → (RV → (RV → A) → A) → (L8 → A) → A := fun t u k => t fun a b c d e f g h => u d fun y => k (fun s => s a b c y e f g h)
noncomputable def uL4 : L8 → (RV → (RV → A) → A) → (L8 → A) → A := fun t u k => t fun a b c d e f g h => u e fun y => k (fun s => s a b c d y f g h)
noncomputable def uL5 : L8 → (RV → (RV → A) → A) → (L8 → A) → A := fun t u k => t fun a b c d e f g h => u f fun y => k (fun s => s a b c d e y g h)
noncomputable def uL6 : L8 → (RV → (RV → A) → A) → (L8 → A) → A := fun t u k => t fun a b c d e f g h => u g fun y => k (fun s => s a b c d e f y h)
noncomputable def uL7 : L8 → (RV → (RV → A) → A) → (L8 → A) → A := fun t u k => t fun a b c d e f g h => u h fun y => k (fun s => s a b c d e f g y)
noncomputable def gBig (pn : N8 → (M8 → A) → A) (pm : M8 → (L8 → A) → A) (pl : L8 → (RV → A) → A) : G3 := fun t k => t fun _ _ _ _ _ _ _ _ n => pn n fun m => pm m fun l => pl l k
noncomputable def sBig (un : N8 → (M8 → (M8 → A) → A) → (N8 → A) → A) (um : M8 → (L8 → (L8 → A) → A) → (M8 → A) → A) (ul : L8 → (RV → (RV → A) → A) → (L8 → A) → A) : S3 := fun t v k => t fun a b c d e f g h n => un n (fun m c => um m (fun l c => ul l (fun _ c => c v) c) c) fun n => k (fun s => s a b c d e f g h n)
noncomputable def nth8 {X : Type} (d a b c e f g h i : X) (k : Nat) : X := match k with | 0 => a | 1 => b | 2 => c | 3 => e | 4 => f | 5 => g | 6 => h | 7 => i | _ => d
noncomputable def getK (k : Nat) : Gw := bf (Nat.ble k 63) (nth8 (.mk (fun _ _ => .no)) (nth8 (.mk (fun _ _ => .no)) (.mk gs00) (.mk gs01) (.mk gs02) (.mk gs03) (.mk gs04) (.mk gs05) (.mk gs06) (.mk gs07) (Nat.mod k 8)) (nth8 (.mk (fun _ _ => .no)) (.mk gs10) (.mk gs11) (.mk gs12) (.mk gs13) (.mk gs14) (.mk gs15) (.mk gs16) (.mk gs17) (Nat.mod k 8)) (nth8 (.mk (fun _ _ => .no)) (.mk gs20) (.mk gs21) (.mk gs22) (.mk gs23) (.mk gs24) (.mk gs25) (.mk gs26) (.mk gs27) (Nat.mod k 8)) (nth8 (.mk (fun _ _ => .no)) (.mk gs30) (.mk gs31) (.mk gs32) (.mk gs33) (.mk gs34) (.mk gs35) (.mk gs36) (.mk gs37) (Nat.mod k 8)) (nth8 (.mk (fun _ _ => .no)) (.mk gs40) (.mk gs41) (.mk gs42) (.mk gs43) (.mk gs44) (.mk gs45) (.mk gs46) (.mk gs47) (Nat.mod k 8)) (nth8 (.mk (fun _ _ => .no)) (.mk gs50) (.mk gs51) (.mk gs52) (.mk gs53) (.mk gs54) (.mk gs55) (.mk gs56) (.mk gs57) (Nat.mod k 8)) (nth8 (.mk (fun _ _ => .no)) (.mk gs60) (.mk gs61) (.mk gs62) (.mk gs63) (.mk gs64) (.mk gs65) (.mk gs66) (.mk gs67) (Nat.mod k 8)) (nth8 (.mk (fun _ _ => .no)) (.mk gs70) (.mk gs71) (.mk gs72) (.mk gs73) (.mk gs74) (.mk gs75) (.mk gs76) (.mk gs77) (Nat.mod k 8)) (Nat.div k 8)) (bf (Nat.ble k 575) (.mk (gBig (nth8 (fun _ _ => .no) pN0 pN1 pN2 pN3 pN4 pN5 pN6 pN7 (Nat.div (Nat.sub k 64) 64)) (nth8 (fun _ _ => .no) pM0 pM1 pM2 pM3 pM4 pM5 pM6 pM7 (Nat.mod (Nat.div (Nat.sub k 64) 8) 8)) (nth8 (fun _ _ => .no) pL0 pL1 pL2 pL3 pL4 pL5 pL6 pL7 (Nat.mod (Nat.sub k 64) 8)))) (.mk (fun _ _ => .no)))
noncomputable def setK (k : Nat) : Sw := bf (Nat.ble k 63) (nth8 (.mk (fun _ _ _ => .no)) (nth8 (.mk (fun _ _ _ => .no)) (.mk ss00) (.mk ss01) (.mk ss02) (.mk ss03) (.mk ss04) (.mk ss05) (.mk ss06) (.mk ss07) (Nat.mod k 8)) (nth8 (.mk (fun _ _ _ => .no)) (.mk ss10) (.mk ss11) (.mk ss12) (.mk ss13) (.mk ss14) (.mk ss15) (.mk ss16) (.mk ss17) (Nat.mod k 8)) (nth8 (.mk (fun _ _ _ => .no)) (.mk ss20) (.mk ss21) (.mk ss22) (.mk ss23) (.mk ss24) (.mk ss25) (.mk ss26) (.mk ss27) (Nat.mod k 8)) (nth8 (.mk (fun _ _ _ => .no)) (.mk ss30) (.mk ss31) (.mk ss32) (.mk ss33) (.mk ss34) (.mk ss35) (.mk ss36) (.mk ss37) (Nat.mod k 8)) (nth8 (.mk (fun _ _ _ => .no)) (.mk ss40) (.mk ss41) (.mk ss42) (.mk ss43) (.mk ss44) (.mk ss45) (.mk ss46) (.mk ss47) (Nat.mod k 8)) (nth8 (.mk (fun _ _ _ => .no)) (.mk ss50) (.mk ss51) (.mk ss52) (.mk ss53) (.mk ss54) (.mk ss55) (.mk ss56) (.mk ss57) (Nat.mod k 8)) (nth8 (.mk (fun _ _ _ => .no)) (.mk ss60) (.mk ss61) (.mk ss62) (.mk ss63) (.mk ss64) (.mk ss65) (.mk ss66) (.mk ss67) (Nat.mod k 8)) (nth8 (.mk (fun _ _ _ => .no)) (.mk ss70) (.mk ss71) (.mk ss72) (.mk ss73) (.mk ss74) (.mk ss75) (.mk ss76) (.mk ss77) (Nat.mod k 8)) (Nat.div k 8)) (bf (Nat.ble k 575) (.mk (sBig (nth8 (fun _ _ _ => .no) uN0 uN1 uN2 uN3 uN4 uN5 uN6 uN7 (Nat.div (Nat.sub k 64) 64)) (nth8 (fun _ _ _ => .no) uM0 uM1 uM2 uM3 uM4 uM5 uM6 uM7 (Nat.mod (Nat.div (Nat.sub k 64) 8) 8)) (nth8 (fun _ _ _ => .no) uL0 uL1 uL2 uL3 uL4 uL5 uL6 uL7 (Nat.mod (Nat.sub k 64) 8)))) (.mk (fun _ _ _ => .no)))
end
end Go.Rn
