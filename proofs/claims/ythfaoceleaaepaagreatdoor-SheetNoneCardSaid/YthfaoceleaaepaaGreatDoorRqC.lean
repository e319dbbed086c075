/-
  One text of a symbolic evaluator over the model, shown sound once for every program: no statement is claimed here.
-/
import Derived.Test.YthfaoceleaaepaaGreatDoorRnC
namespace Go.Rn
inductive A where | yes | no
inductive Pq where | z | a (p:Pq) | b (p:Pq) | c (p:Pq) | d (p:Pq) | e
def Good (a:A):Prop:=a=.yes
theorem Good.no {p:Prop} (h:Good .no):p:=by cases h
section
noncomputable def ifA:Bool→A→A→A:=@Bool.rec (fun _=>A→A→A) (fun _ n=>n) (fun y _=>y)
noncomputable def cB:RV→(Bool→A)→A:=@RV.rec (fun _=>(Bool→A)→A) (fun _=>.no) (fun _=>.no) (fun x0 k=>k x0) (fun _ _ _=>.no) (fun _ _ _=>.no) (fun _ _=>.no) (fun _=>.no) (fun _ _ _=>.no) (fun _=>.no) (fun _ _ _ _ _=>.no) (fun _ _ _ _ _=>.no) (fun _ _ _=>.no) (fun _=>.no) (fun _ _ _ _=>.no) (fun _=>.no) (fun _ _ _ _ _=>.no) (fun _ _ _=>.no) (fun _ _ _=>.no) (fun _ _=>.no)
noncomputable def cI:RV→(IntKind→Int→A)→A:=@RV.rec (fun _=>(IntKind→Int→A)→A) (fun _=>.no) (fun _=>.no) (fun _ _=>.no) (fun x0 x1 k=>k x0 x1) (fun _ _ _=>.no) (fun _ _=>.no) (fun _=>.no) (fun _ _ _=>.no) (fun _=>.no) (fun _ _ _ _ _=>.no) (fun _ _ _ _ _=>.no) (fun _ _ _=>.no) (fun _=>.no) (fun _ _ _ _=>.no) (fun _=>.no) (fun _ _ _ _ _=>.no) (fun _ _ _=>.no) (fun _ _ _=>.no) (fun _ _=>.no)
noncomputable def cS:RV→(List Nat→A)→A:=@RV.rec (fun _=>(List Nat→A)→A) (fun _=>.no) (fun _=>.no) (fun _ _=>.no) (fun _ _ _=>.no) (fun _ _ _=>.no) (fun x0 k=>k x0) (fun _=>.no) (fun _ _ _=>.no) (fun _=>.no) (fun _ _ _ _ _=>.no) (fun _ _ _ _ _=>.no) (fun _ _ _=>.no) (fun _=>.no) (fun _ _ _ _=>.no) (fun _=>.no) (fun _ _ _ _ _=>.no) (fun _ _ _=>.no) (fun _ _ _=>.no) (fun _ _=>.no)
noncomputable def cP:RV→(Nat→Nat→A)→A:=@RV.rec (fun _=>(Nat→Nat→A)→A) (fun _=>.no) (fun _=>.no) (fun _ _=>.no) (fun _ _ _=>.no) (fun _ _ _=>.no) (fun _ _=>.no) (fun _=>.no) (fun x0 x1 k=>k x0 x1) (fun _=>.no) (fun _ _ _ _ _=>.no) (fun _ _ _ _ _=>.no) (fun _ _ _=>.no) (fun _=>.no) (fun _ _ _ _=>.no) (fun _=>.no) (fun _ _ _ _ _=>.no) (fun _ _ _=>.no) (fun _ _ _=>.no) (fun _ _=>.no)
noncomputable def cF:RV→(Nat→RV→A)→A:=@RV.rec (fun _=>(Nat→RV→A)→A) (fun _=>.no) (fun _=>.no) (fun _ _=>.no) (fun _ _ _=>.no) (fun _ _ _=>.no) (fun _ _=>.no) (fun _=>.no) (fun _ _ _=>.no) (fun _=>.no) (fun _ _ _ _ _=>.no) (fun _ _ _ _ _=>.no) (fun _ _ _=>.no) (fun _=>.no) (fun x0 x1 _ k=>k x0 x1) (fun _=>.no) (fun _ _ _ _ _=>.no) (fun _ _ _=>.no) (fun _ _ _=>.no) (fun _ _=>.no)
noncomputable def cA:RV→(RV→A)→A:=@RV.rec (fun _=>(RV→A)→A) (fun _=>.no) (fun _=>.no) (fun _ _=>.no) (fun _ _ _=>.no) (fun _ _ _=>.no) (fun _ _=>.no) (fun _=>.no) (fun _ _ _=>.no) (fun _=>.no) (fun _ _ _ _ _=>.no) (fun _ _ _ _ _=>.no) (fun _ _ _=>.no) (fun _=>.no) (fun _ _ _ _=>.no) (fun _=>.no) (fun _ _ _ _ _=>.no) (fun x0 _ k=>k x0) (fun _ _ _=>.no) (fun _ _=>.no)
noncomputable def cT:RV→(RV→A)→A:=@RV.rec (fun _=>(RV→A)→A) (fun _=>.no) (fun _=>.no) (fun _ _=>.no) (fun _ _ _=>.no) (fun _ _ _=>.no) (fun _ _=>.no) (fun _=>.no) (fun _ _ _=>.no) (fun _=>.no) (fun _ _ _ _ _=>.no) (fun _ _ _ _ _=>.no) (fun _ _ _=>.no) (fun _=>.no) (fun _ _ _ _=>.no) (fun _=>.no) (fun _ _ _ _ _=>.no) (fun _ _ _=>.no) (fun x0 _ k=>k x0) (fun _ _=>.no)
noncomputable def cMp:RV→(Nat→A)→A:=@RV.rec (fun _=>(Nat→A)→A) (fun _=>.no) (fun _=>.no) (fun _ _=>.no) (fun _ _ _=>.no) (fun _ _ _=>.no) (fun _ _=>.no) (fun _=>.no) (fun _ _ _=>.no) (fun _=>.no) (fun _ _ _ _ _=>.no) (fun _ _ _ _ _=>.no) (fun _ _ _=>.no) (fun _=>.no) (fun _ _ _ _=>.no) (fun _=>.no) (fun _ _ _ _ _=>.no) (fun _ _ _=>.no) (fun _ _ _=>.no) (fun x0 k=>k x0)
noncomputable def cN:RV→(RV→RV→A)→A:=@RV.rec (fun _=>(RV→RV→A)→A) (fun _=>.no) (fun _=>.no) (fun _ _=>.no) (fun _ _ _=>.no) (fun _ _ _=>.no) (fun _ _=>.no) (fun _=>.no) (fun _ _ _=>.no) (fun _=>.no) (fun _ _ _ _ _=>.no) (fun _ _ _ _ _=>.no) (fun _ _ _=>.no) (fun _=>.no) (fun _ _ _ _=>.no) (fun _=>.no) (fun x0 x1 _ _ k=>k x0 x1) (fun _ _ _=>.no) (fun _ _ _=>.no) (fun _ _=>.no)
noncomputable def cNn:RV→(A)→(RV→RV→A)→A:=@RV.rec (fun _=>(A)→(RV→RV→A)→A) (fun _ _=>.no) (fun _ _=>.no) (fun _ _ _=>.no) (fun _ _ _ _=>.no) (fun _ _ _ _=>.no) (fun _ _ _=>.no) (fun _ _=>.no) (fun _ _ _ _=>.no) (fun _ _=>.no) (fun _ _ _ _ _ _=>.no) (fun _ _ _ _ _ _=>.no) (fun _ _ _ _=>.no) (fun _ _=>.no) (fun _ _ _ _ _=>.no) (fun k0 _=>k0) (fun x0 x1 _ _ _ k=>k x0 x1) (fun _ _ _ _=>.no) (fun _ _ _ _=>.no) (fun _ _ _=>.no)
noncomputable def cU:RV→(A)→A:=@RV.rec (fun _=>(A)→A) (fun _=>.no) (fun y=>y) (fun _ y=>y) (fun _ _ y=>y) (fun _ _ y=>y) (fun _ y=>y) (fun y=>y) (fun _ _ y=>y) (fun y=>y) (fun _ _ _ _ y=>y) (fun _ _ _ _ y=>y) (fun _ _ y=>y) (fun y=>y) (fun _ _ _ y=>y) (fun y=>y) (fun _ _ _ _ y=>y) (fun _ _ y=>y) (fun _ _ y=>y) (fun _ y=>y)
noncomputable def cUv:RV→(RV→A)→A:=@RV.rec (fun _=>(RV→A)→A) (fun _=>.no) (fun k=>k (.ud)) (fun x0 k=>k (.b x0)) (fun x0 x1 k=>k (.i x0 x1)) (fun x0 x1 k=>k (.y x0 x1)) (fun x0 k=>k (.s x0)) (fun k=>k (.np)) (fun x0 x1 k=>k (.p x0 x1)) (fun k=>k (.ns)) (fun x0 x1 x2 x3 k=>k (.sl x0 x1 x2 x3)) (fun x0 x1 x2 x3 k=>k (.su x0 x1 x2 x3)) (fun x0 x1 k=>k (.sx x0 x1)) (fun k=>k (.nf)) (fun x0 x1 _ k=>k (.fn x0 x1)) (fun k=>k (.nil)) (fun x0 x1 _ _ k=>k (.cons x0 x1)) (fun x0 _ k=>k (.agg x0)) (fun x0 _ k=>k (.tup x0)) (fun x0 k=>k (.mp x0))
noncomputable def cL:RV→(A)→(Nat→Nat→Nat→Nat→A)→(Nat→Nat→Nat→Nat→A)→(Nat→Nat→A)→A:=@RV.rec (fun _=>(A)→(Nat→Nat→Nat→Nat→A)→(Nat→Nat→Nat→Nat→A)→(Nat→Nat→A)→A) (fun _ _ _ _=>.no) (fun _ _ _ _=>.no) (fun _ _ _ _ _=>.no) (fun _ _ _ _ _ _=>.no) (fun _ _ _ _ _ _=>.no) (fun _ _ _ _ _=>.no) (fun _ _ _ _=>.no) (fun _ _ _ _ _ _=>.no) (fun k0 _ _ _=>k0) (fun x0 x1 x2 x3 _ k1 _ _=>k1 x0 x1 x2 x3) (fun x0 x1 x2 x3 _ _ k2 _=>k2 x0 x1 x2 x3) (fun x0 x1 _ _ _ k3=>k3 x0 x1) (fun _ _ _ _=>.no) (fun _ _ _ _ _ _ _=>.no) (fun _ _ _ _=>.no) (fun _ _ _ _ _ _ _ _=>.no) (fun _ _ _ _ _ _=>.no) (fun _ _ _ _ _ _=>.no) (fun _ _ _ _ _=>.no)
noncomputable def cC:RV→(RV→A)→(A)→A:=@RV.rec (fun _=>(RV→A)→(A)→A) (fun _ _=>.no) (fun _ _=>.no) (fun _ _ k1=>k1) (fun _ _ _ k1=>k1) (fun _ _ _ k1=>k1) (fun _ _ k1=>k1) (fun _ k1=>k1) (fun _ _ _ k1=>k1) (fun _ k1=>k1) (fun _ _ _ _ _ k1=>k1) (fun _ _ _ _ _ k1=>k1) (fun _ _ _ k1=>k1) (fun _ k1=>k1) (fun _ _ _ _ k1=>k1) (fun _ _=>.no) (fun _ _ _ _ _ _=>.no) (fun x0 _ k _=>k x0) (fun _ _ _ _=>.no) (fun _ _ k1=>k1)
noncomputable def cNc:RV→(A)→A:=@RV.rec (fun _=>(A)→A) (fun _=>.no) (fun _=>.no) (fun _ _=>.no) (fun _ _ _=>.no) (fun _ _ _=>.no) (fun _ _=>.no) (fun _=>.no) (fun _ _ y=>y) (fun _=>.no) (fun _ _ _ _ _=>.no) (fun _ _ _ _ _=>.no) (fun _ _ _=>.no) (fun _=>.no) (fun x0 x1 _ y=>ifA (Nat.ble 33554432 x0) (cN x1 fun _ _=>y) y) (fun _=>.no) (fun _ _ _ _ _=>.no) (fun _ _ _=>.no) (fun _ _ _=>.no) (fun _ _=>.no)
noncomputable def cNil:RV→(Nat→Bool→A)→A:=@RV.rec (fun _=>(Nat→Bool→A)→A) (fun _=>.no) (fun _=>.no) (fun _ _=>.no) (fun _ _ _=>.no) (fun _ _ _=>.no) (fun _ _=>.no) (fun k=>k 0 true) (fun _ _ k=>k 0 false) (fun k=>k 1 true) (fun _ _ _ _ k=>k 1 false) (fun _ _ _ _ k=>k 1 false) (fun _ _ k=>k 1 false) (fun k=>k 2 true) (fun x0 x1 _ k=>ifA (Nat.ble 33554432 x0) (cNn x1 (k 3 true) fun x r=>cNn x (cNn r .no fun _ q=>cNn q (k 3 false) fun _ _=>.no) fun _ _=>.no) (k 2 false)) (fun _=>.no) (fun _ _ _ _ _=>.no) (fun _ _ _=>.no) (fun _ _ _=>.no) (fun _ _=>.no)
noncomputable def cG:RV→(Bool)→(A)→(A)→A:=@RV.rec (fun _=>(Bool)→(A)→(A)→A) (fun _ _ _=>.no) (fun _ _ n=>n) (fun x0 w y n=>ifA (eqB x0 w) y n) (fun _ _ _ _ _=>.no) (fun _ _ _ _ _=>.no) (fun _ _ _ _=>.no) (fun _ _ _=>.no) (fun _ _ _ _ _=>.no) (fun _ _ _=>.no) (fun _ _ _ _ _ _ _=>.no) (fun _ _ _ _ _ _ _=>.no) (fun _ _ _ _ _=>.no) (fun _ _ _=>.no) (fun _ _ _ _ _ _=>.no) (fun _ _ _=>.no) (fun _ _ _ _ _ _ _=>.no) (fun _ _ _ _ _=>.no) (fun _ _ _ _ _=>.no) (fun _ _ _ _=>.no)
noncomputable def cY:RV→(IntKind→SE→A)→(IntKind→Int→A)→A:=@RV.rec (fun _=>(IntKind→SE→A)→(IntKind→Int→A)→A) (fun _ _=>.no) (fun _ _=>.no) (fun _ _ _=>.no) (fun x0 x1 _ ki=>ki x0 x1) (fun x0 x1 k _=>k x0 x1) (fun _ _ _=>.no) (fun _ _=>.no) (fun _ _ _ _=>.no) (fun _ _=>.no) (fun _ _ _ _ _ _=>.no) (fun _ _ _ _ _ _=>.no) (fun _ _ _ _=>.no) (fun _ _=>.no) (fun _ _ _ _ _=>.no) (fun _ _=>.no) (fun _ _ _ _ _ _=>.no) (fun _ _ _ _=>.no) (fun _ _ _ _=>.no) (fun _ _ _=>.no)
noncomputable def iN:Int→(Nat→A)→A→A:=@Int.rec (fun _=>(Nat→A)→A→A) (fun m k _=>k m) (fun _ _ s=>s)
noncomputable def k64:IntKind→A→A→A→A:=@IntKind.rec (fun _=>A→A→A→A) (fun _ _ s=>s) (fun _ _ s=>s) (fun _ _ s=>s) (fun i _ _=>i) (fun _ _ s=>s) (fun _ _ s=>s) (fun _ _ s=>s) (fun _ u _=>u)
noncomputable def cM:RV→(Nat→A)→(Nat→A)→A→A:=@RV.rec (fun _=>(Nat→A)→(Nat→A)→A→A) (fun _ _ s=>s) (fun _ _ s=>s) (fun _ _ _ s=>s) (fun j z ki ku s=>iN z (fun m=>k64 j (ki m) (ku m) s) s) (fun _ _ _ _ s=>s) (fun _ _ _ s=>s) (fun _ _ s=>s) (fun _ _ _ _ s=>s) (fun _ _ s=>s) (fun _ _ _ _ _ _ s=>s) (fun _ _ _ _ _ _ s=>s) (fun _ _ _ _ s=>s) (fun _ _ s=>s) (fun _ _ _ _ _ s=>s) (fun _ _ s=>s) (fun _ _ _ _ _ _ s=>s) (fun _ _ _ _ s=>s) (fun _ _ _ _ s=>s) (fun _ _ _ s=>s)
noncomputable def cK:RV→(Nat→A)→A:=@RV.rec (fun _=>(Nat→A)→A) (fun _=>.no) (fun _=>.no) (fun _ _=>.no) (fun _ x1 k=>iN x1 k .no) (fun _ _ _=>.no) (fun _ _=>.no) (fun _=>.no) (fun _ _ _=>.no) (fun _=>.no) (fun _ _ _ _ _=>.no) (fun _ _ _ _ _=>.no) (fun _ _ _=>.no) (fun _=>.no) (fun _ _ _ _=>.no) (fun _=>.no) (fun _ _ _ _ _=>.no) (fun _ _ _=>.no) (fun _ _ _=>.no) (fun _ _=>.no)
noncomputable def frc (r:Nat) (k:Nat→A):A:=@Nat.rec (fun _=>A) (k 0) (fun q _=>k (Nat.succ q)) r
noncomputable def cON:Option Nat→(Nat→A)→A:=@Option.rec Nat (fun _=>(Nat→A)→A) (fun _=>.no) (fun x k=>k x)
noncomputable def cOV:Option RV→A→(RV→A)→A:=@Option.rec RV (fun _=>A→(RV→A)→A) (fun n _=>n) (fun x _ k=>k x)
noncomputable def mkBk:Bool→(RV→A)→A:=@Bool.rec (fun _=>(RV→A)→A) (fun k=>k (.b false)) (fun k=>k (.b true))
/-! trees of closures -/
abbrev Nd (X T:Type):Type:=(X→T→T→T→T→A)→A
noncomputable def fourW:Nat→Pq→Pq:=@Nat.rec (fun _=>Pq→Pq) (fun p=>.a p) (fun r _=>@Nat.rec (fun _=>Pq→Pq) (fun p=>.b p) (fun r _=>@Nat.rec (fun _=>Pq→Pq) (fun p=>.c p) (fun _ _ p=>.d p) r) r)
noncomputable def pathF:Nat→Nat→Pq:=@Nat.rec (fun _=>Nat→Pq) (@Nat.rec (fun _=>Pq) .z (fun _ _=>.e)) (fun _ ih=>@Nat.rec (fun _=>Pq) .z (fun q _=>fourW (Nat.mod q 4) (ih (Nat.div q 4))))
noncomputable def stG (X T:Type) (ih:Pq→T→(X→A)→A):Pq→Nd X T→(X→A)→A:=@Pq.rec (fun _=>Nd X T→(X→A)→A) (fun t k=>t fun v _ _ _ _=>k v) (fun q _ t k=>t fun _ x _ _ _=>ih q x k) (fun q _ t k=>t fun _ _ x _ _=>ih q x k) (fun q _ t k=>t fun _ _ _ x _=>ih q x k) (fun q _ t k=>t fun _ _ _ _ x=>ih q x k) (fun _ _=>.no)
noncomputable def stS (X T:Type) (ih:Pq→T→(X→(X→A)→A)→(T→A)→A):Pq→Nd X T→(X→(X→A)→A)→(Nd X T→A)→A:=@Pq.rec (fun _=>Nd X T→(X→(X→A)→A)→(Nd X T→A)→A) (fun t u k=>t fun v a b c d=>u v fun x=>k (fun s=>s x a b c d)) (fun q _ t u k=>t fun v a b c d=>ih q a u fun y=>k (fun s=>s v y b c d)) (fun q _ t u k=>t fun v a b c d=>ih q b u fun y=>k (fun s=>s v a y c d)) (fun q _ t u k=>t fun v a b c d=>ih q c u fun y=>k (fun s=>s v a b y d)) (fun q _ t u k=>t fun v a b c d=>ih q d u fun y=>k (fun s=>s v a b c y)) (fun _ _ _=>.no)
def CT0:Type:=A
noncomputable def getC0:Pq→CT0→(RV→A)→A:=fun _ _ _=>.no
noncomputable def updC0:Pq→CT0→(RV→(RV→A)→A)→(CT0→A)→A:=fun _ _ _ _=>.no
noncomputable def emC0:CT0:=A.no
def CT1:Type:=Nd RV CT0
noncomputable def getC1:Pq→CT1→(RV→A)→A:=@Pq.rec (fun _=>CT1→(RV→A)→A) (fun t k=>t fun v _ _ _ _=>k v) (fun q _ t k=>t fun _ x _ _ _=>getC0 q x k) (fun q _ t k=>t fun _ _ x _ _=>getC0 q x k) (fun q _ t k=>t fun _ _ _ x _=>getC0 q x k) (fun q _ t k=>t fun _ _ _ _ x=>getC0 q x k) (fun _ _=>.no)
noncomputable def updC1:Pq→CT1→(RV→(RV→A)→A)→(CT1→A)→A:=@Pq.rec (fun _=>CT1→(RV→(RV→A)→A)→(CT1→A)→A) (fun t u k=>t fun v a b c d=>u v fun x=>k (fun s=>s x a b c d)) (fun q _ t u k=>t fun v a b c d=>updC0 q a u fun y=>k (fun s=>s v y b c d)) (fun q _ t u k=>t fun v a b c d=>updC0 q b u fun y=>k (fun s=>s v a y c d)) (fun q _ t u k=>t fun v a b c d=>updC0 q c u fun y=>k (fun s=>s v a b y d)) (fun q _ t u k=>t fun v a b c d=>updC0 q d u fun y=>k (fun s=>s v a b c y)) (fun _ _ _=>.no)
noncomputable def emC1:CT1:=fun s=>s .un emC0 emC0 emC0 emC0
def CT2:Type:=Nd RV CT1
noncomputable def getC2:Pq→CT2→(RV→A)→A:=@Pq.rec (fun _=>CT2→(RV→A)→A) (fun t k=>t fun v _ _ _ _=>k v) (fun q _ t k=>t fun _ x _ _ _=>getC1 q x k) (fun q _ t k=>t fun _ _ x _ _=>getC1 q x k) (fun q _ t k=>t fun _ _ _ x _=>getC1 q x k) (fun q _ t k=>t fun _ _ _ _ x=>getC1 q x k) (fun _ _=>.no)
noncomputable def updC2:Pq→CT2→(RV→(RV→A)→A)→(CT2→A)→A:=@Pq.rec (fun _=>CT2→(RV→(RV→A)→A)→(CT2→A)→A) (fun t u k=>t fun v a b c d=>u v fun x=>k (fun s=>s x a b c d)) (fun q _ t u k=>t fun v a b c d=>updC1 q a u fun y=>k (fun s=>s v y b c d)) (fun q _ t u k=>t fun v a b c d=>updC1 q b u fun y=>k (fun s=>s v a y c d)) (fun q _ t u k=>t fun v a b c d=>updC1 q c u fun y=>k (fun s=>s v a b y d)) (fun q _ t u k=>t fun v a b c d=>updC1 q d u fun y=>k (fun s=>s v a b c y)) (fun _ _ _=>.no)
noncomputable def emC2:CT2:=fun s=>s .un emC1 emC1 emC1 emC1
def CT3:Type:=Nd RV CT2
noncomputable def getC3:Pq→CT3→(RV→A)→A:=@Pq.rec (fun _=>CT3→(RV→A)→A) (fun t k=>t fun v _ _ _ _=>k v) (fun q _ t k=>t fun _ x _ _ _=>getC2 q x k) (fun q _ t k=>t fun _ _ x _ _=>getC2 q x k) (fun q _ t k=>t fun _ _ _ x _=>getC2 q x k) (fun q _ t k=>t fun _ _ _ _ x=>getC2 q x k) (fun _ _=>.no)
noncomputable def updC3:Pq→CT3→(RV→(RV→A)→A)→(CT3→A)→A:=@Pq.rec (fun _=>CT3→(RV→(RV→A)→A)→(CT3→A)→A) (fun t u k=>t fun v a b c d=>u v fun x=>k (fun s=>s x a b c d)) (fun q _ t u k=>t fun v a b c d=>updC2 q a u fun y=>k (fun s=>s v y b c d)) (fun q _ t u k=>t fun v a b c d=>updC2 q b u fun y=>k (fun s=>s v a y c d)) (fun q _ t u k=>t fun v a b c d=>updC2 q c u fun y=>k (fun s=>s v a b y d)) (fun q _ t u k=>t fun v a b c d=>updC2 q d u fun y=>k (fun s=>s v a b c y)) (fun _ _ _=>.no)
noncomputable def emC3:CT3:=fun s=>s .un emC2 emC2 emC2 emC2
def CT4:Type:=Nd RV CT3
noncomputable def getC4:Pq→CT4→(RV→A)→A:=@Pq.rec (fun _=>CT4→(RV→A)→A) (fun t k=>t fun v _ _ _ _=>k v) (fun q _ t k=>t fun _ x _ _ _=>getC3 q x k) (fun q _ t k=>t fun _ _ x _ _=>getC3 q x k) (fun q _ t k=>t fun _ _ _ x _=>getC3 q x k) (fun q _ t k=>t fun _ _ _ _ x=>getC3 q x k) (fun _ _=>.no)
noncomputable def updC4:Pq→CT4→(RV→(RV→A)→A)→(CT4→A)→A:=@Pq.rec (fun _=>CT4→(RV→(RV→A)→A)→(CT4→A)→A) (fun t u k=>t fun v a b c d=>u v fun x=>k (fun s=>s x a b c d)) (fun q _ t u k=>t fun v a b c d=>updC3 q a u fun y=>k (fun s=>s v y b c d)) (fun q _ t u k=>t fun v a b c d=>updC3 q b u fun y=>k (fun s=>s v a y c d)) (fun q _ t u k=>t fun v a b c d=>updC3 q c u fun y=>k (fun s=>s v a b y d)) (fun q _ t u k=>t fun v a b c d=>updC3 q d u fun y=>k (fun s=>s v a b c y)) (fun _ _ _=>.no)
noncomputable def emC4:CT4:=fun s=>s .un emC3 emC3 emC3 emC3
def CT5:Type:=Nd RV CT4
noncomputable def getC5:Pq→CT5→(RV→A)→A:=@Pq.rec (fun _=>CT5→(RV→A)→A) (fun t k=>t fun v _ _ _ _=>k v) (fun q _ t k=>t fun _ x _ _ _=>getC4 q x k) (fun q _ t k=>t fun _ _ x _ _=>getC4 q x k) (fun q _ t k=>t fun _ _ _ x _=>getC4 q x k) (fun q _ t k=>t fun _ _ _ _ x=>getC4 q x k) (fun _ _=>.no)
noncomputable def updC5:Pq→CT5→(RV→(RV→A)→A)→(CT5→A)→A:=@Pq.rec (fun _=>CT5→(RV→(RV→A)→A)→(CT5→A)→A) (fun t u k=>t fun v a b c d=>u v fun x=>k (fun s=>s x a b c d)) (fun q _ t u k=>t fun v a b c d=>updC4 q a u fun y=>k (fun s=>s v y b c d)) (fun q _ t u k=>t fun v a b c d=>updC4 q b u fun y=>k (fun s=>s v a y c d)) (fun q _ t u k=>t fun v a b c d=>updC4 q c u fun y=>k (fun s=>s v a b y d)) (fun q _ t u k=>t fun v a b c d=>updC4 q d u fun y=>k (fun s=>s v a b c y)) (fun _ _ _=>.no)
noncomputable def emC5:CT5:=fun s=>s .un emC4 emC4 emC4 emC4
def CT6:Type:=Nd RV CT5
noncomputable def getC6:Pq→CT6→(RV→A)→A:=@Pq.rec (fun _=>CT6→(RV→A)→A) (fun t k=>t fun v _ _ _ _=>k v) (fun q _ t k=>t fun _ x _ _ _=>getC5 q x k) (fun q _ t k=>t fun _ _ x _ _=>getC5 q x k) (fun q _ t k=>t fun _ _ _ x _=>getC5 q x k) (fun q _ t k=>t fun _ _ _ _ x=>getC5 q x k) (fun _ _=>.no)
noncomputable def updC6:Pq→CT6→(RV→(RV→A)→A)→(CT6→A)→A:=@Pq.rec (fun _=>CT6→(RV→(RV→A)→A)→(CT6→A)→A) (fun t u k=>t fun v a b c d=>u v fun x=>k (fun s=>s x a b c d)) (fun q _ t u k=>t fun v a b c d=>updC5 q a u fun y=>k (fun s=>s v y b c d)) (fun q _ t u k=>t fun v a b c d=>updC5 q b u fun y=>k (fun s=>s v a y c d)) (fun q _ t u k=>t fun v a b c d=>updC5 q c u fun y=>k (fun s=>s v a b y d)) (fun q _ t u k=>t fun v a b c d=>updC5 q d u fun y=>k (fun s=>s v a b c y)) (fun _ _ _=>.no)
noncomputable def emC6:CT6:=fun s=>s .un emC5 emC5 emC5 emC5
def CT7:Type:=Nd RV CT6
noncomputable def getC7:Pq→CT7→(RV→A)→A:=@Pq.rec (fun _=>CT7→(RV→A)→A) (fun t k=>t fun v _ _ _ _=>k v) (fun q _ t k=>t fun _ x _ _ _=>getC6 q x k) (fun q _ t k=>t fun _ _ x _ _=>getC6 q x k) (fun q _ t k=>t fun _ _ _ x _=>getC6 q x k) (fun q _ t k=>t fun _ _ _ _ x=>getC6 q x k) (fun _ _=>.no)
noncomputable def updC7:Pq→CT7→(RV→(RV→A)→A)→(CT7→A)→A:=@Pq.rec (fun _=>CT7→(RV→(RV→A)→A)→(CT7→A)→A) (fun t u k=>t fun v a b c d=>u v fun x=>k (fun s=>s x a b c d)) (fun q _ t u k=>t fun v a b c d=>updC6 q a u fun y=>k (fun s=>s v y b c d)) (fun q _ t u k=>t fun v a b c d=>updC6 q b u fun y=>k (fun s=>s v a y c d)) (fun q _ t u k=>t fun v a b c d=>updC6 q c u fun y=>k (fun s=>s v a b y d)) (fun q _ t u k=>t fun v a b c d=>updC6 q d u fun y=>k (fun s=>s v a b c y)) (fun _ _ _=>.no)
noncomputable def emC7:CT7:=fun s=>s .un emC6 emC6 emC6 emC6
def CT8:Type:=Nd RV CT7
noncomputable def getC8:Pq→CT8→(RV→A)→A:=@Pq.rec (fun _=>CT8→(RV→A)→A) (fun t k=>t fun v _ _ _ _=>k v) (fun q _ t k=>t fun _ x _ _ _=>getC7 q x k) (fun q _ t k=>t fun _ _ x _ _=>getC7 q x k) (fun q _ t k=>t fun _ _ _ x _=>getC7 q x k) (fun q _ t k=>t fun _ _ _ _ x=>getC7 q x k) (fun _ _=>.no)
noncomputable def updC8:Pq→CT8→(RV→(RV→A)→A)→(CT8→A)→A:=@Pq.rec (fun _=>CT8→(RV→(RV→A)→A)→(CT8→A)→A) (fun t u k=>t fun v a b c d=>u v fun x=>k (fun s=>s x a b c d)) (fun q _ t u k=>t fun v a b c d=>updC7 q a u fun y=>k (fun s=>s v y b c d)) (fun q _ t u k=>t fun v a b c d=>updC7 q b u fun y=>k (fun s=>s v a y c d)) (fun q _ t u k=>t fun v a b c d=>updC7 q c u fun y=>k (fun s=>s v a b y d)) (fun q _ t u k=>t fun v a b c d=>updC7 q d u fun y=>k (fun s=>s v a b c y)) (fun _ _ _=>.no)
noncomputable def emC8:CT8:=fun s=>s .un emC7 emC7 emC7 emC7
def CT9:Type:=Nd RV CT8
noncomputable def getC9:Pq→CT9→(RV→A)→A:=@Pq.rec (fun _=>CT9→(RV→A)→A) (fun t k=>t fun v _ _ _ _=>k v) (fun q _ t k=>t fun _ x _ _ _=>getC8 q x k) (fun q _ t k=>t fun _ _ x _ _=>getC8 q x k) (fun q _ t k=>t fun _ _ _ x _=>getC8 q x k) (fun q _ t k=>t fun _ _ _ _ x=>getC8 q x k) (fun _ _=>.no)
noncomputable def updC9:Pq→CT9→(RV→(RV→A)→A)→(CT9→A)→A:=@Pq.rec (fun _=>CT9→(RV→(RV→A)→A)→(CT9→A)→A) (fun t u k=>t fun v a b c d=>u v fun x=>k (fun s=>s x a b c d)) (fun q _ t u k=>t fun v a b c d=>updC8 q a u fun y=>k (fun s=>s v y b c d)) (fun q _ t u k=>t fun v a b c d=>updC8 q b u fun y=>k (fun s=>s v a y c d)) (fun q _ t u k=>t fun v a b c d=>updC8 q c u fun y=>k (fun s=>s v a b y d)) (fun q _ t u k=>t fun v a b c d=>updC8 q d u fun y=>k (fun s=>s v a b c y)) (fun _ _ _=>.no)
noncomputable def emC9:CT9:=fun s=>s .un emC8 emC8 emC8 emC8
abbrev C3:=CT9
abbrev B3:=A→(C3→A)→(C3→Nat→A)→A
noncomputable def noB:B3:=fun n _ _=>n
noncomputable def mpB (c:C3):B3:=fun _ k _=>k c
noncomputable def bkB (c:C3) (z:Nat):B3:=fun _ _ k=>k c z
def HT0:Type:=A
noncomputable def getH0:Pq→HT0→(B3→A)→A:=fun _ _ _=>.no
noncomputable def updH0:Pq→HT0→(B3→(B3→A)→A)→(HT0→A)→A:=fun _ _ _ _=>.no
noncomputable def emH0:HT0:=A.no
def HT1:Type:=Nd B3 HT0
noncomputable def getH1:Pq→HT1→(B3→A)→A:=@Pq.rec (fun _=>HT1→(B3→A)→A) (fun t k=>t fun v _ _ _ _=>k v) (fun q _ t k=>t fun _ x _ _ _=>getH0 q x k) (fun q _ t k=>t fun _ _ x _ _=>getH0 q x k) (fun q _ t k=>t fun _ _ _ x _=>getH0 q x k) (fun q _ t k=>t fun _ _ _ _ x=>getH0 q x k) (fun _ _=>.no)
noncomputable def updH1:Pq→HT1→(B3→(B3→A)→A)→(HT1→A)→A:=@Pq.rec (fun _=>HT1→(B3→(B3→A)→A)→(HT1→A)→A) (fun t u k=>t fun v a b c d=>u v fun x=>k (fun s=>s x a b c d)) (fun q _ t u k=>t fun v a b c d=>updH0 q a u fun y=>k (fun s=>s v y b c d)) (fun q _ t u k=>t fun v a b c d=>updH0 q b u fun y=>k (fun s=>s v a y c d)) (fun q _ t u k=>t fun v a b c d=>updH0 q c u fun y=>k (fun s=>s v a b y d)) (fun q _ t u k=>t fun v a b c d=>updH0 q d u fun y=>k (fun s=>s v a b c y)) (fun _ _ _=>.no)
noncomputable def emH1:HT1:=fun s=>s noB emH0 emH0 emH0 emH0
def HT2:Type:=Nd B3 HT1
noncomputable def getH2:Pq→HT2→(B3→A)→A:=@Pq.rec (fun _=>HT2→(B3→A)→A) (fun t k=>t fun v _ _ _ _=>k v) (fun q _ t k=>t fun _ x _ _ _=>getH1 q x k) (fun q _ t k=>t fun _ _ x _ _=>getH1 q x k) (fun q _ t k=>t fun _ _ _ x _=>getH1 q x k) (fun q _ t k=>t fun _ _ _ _ x=>getH1 q x k) (fun _ _=>.no)
noncomputable def updH2:Pq→HT2→(B3→(B3→A)→A)→(HT2→A)→A:=@Pq.rec (fun _=>HT2→(B3→(B3→A)→A)→(HT2→A)→A) (fun t u k=>t fun v a b c d=>u v fun x=>k (fun s=>s x a b c d)) (fun q _ t u k=>t fun v a b c d=>updH1 q a u fun y=>k (fun s=>s v y b c d)) (fun q _ t u k=>t fun v a b c d=>updH1 q b u fun y=>k (fun s=>s v a y c d)) (fun q _ t u k=>t fun v a b c d=>updH1 q c u fun y=>k (fun s=>s v a b y d)) (fun q _ t u k=>t fun v a b c d=>updH1 q d u fun y=>k (fun s=>s v a b c y)) (fun _ _ _=>.no)
noncomputable def emH2:HT2:=fun s=>s noB emH1 emH1 emH1 emH1
def HT3:Type:=Nd B3 HT2
noncomputable def getH3:Pq→HT3→(B3→A)→A:=@Pq.rec (fun _=>HT3→(B3→A)→A) (fun t k=>t fun v _ _ _ _=>k v) (fun q _ t k=>t fun _ x _ _ _=>getH2 q x k) (fun q _ t k=>t fun _ _ x _ _=>getH2 q x k) (fun q _ t k=>t fun _ _ _ x _=>getH2 q x k) (fun q _ t k=>t fun _ _ _ _ x=>getH2 q x k) (fun _ _=>.no)
noncomputable def updH3:Pq→HT3→(B3→(B3→A)→A)→(HT3→A)→A:=@Pq.rec (fun _=>HT3→(B3→(B3→A)→A)→(HT3→A)→A) (fun t u k=>t fun v a b c d=>u v fun x=>k (fun s=>s x a b c d)) (fun q _ t u k=>t fun v a b c d=>updH2 q a u fun y=>k (fun s=>s v y b c d)) (fun q _ t u k=>t fun v a b c d=>updH2 q b u fun y=>k (fun s=>s v a y c d)) (fun q _ t u k=>t fun v a b c d=>updH2 q c u fun y=>k (fun s=>s v a b y d)) (fun q _ t u k=>t fun v a b c d=>updH2 q d u fun y=>k (fun s=>s v a b c y)) (fun _ _ _=>.no)
noncomputable def emH3:HT3:=fun s=>s noB emH2 emH2 emH2 emH2
def HT4:Type:=Nd B3 HT3
noncomputable def getH4:Pq→HT4→(B3→A)→A:=@Pq.rec (fun _=>HT4→(B3→A)→A) (fun t k=>t fun v _ _ _ _=>k v) (fun q _ t k=>t fun _ x _ _ _=>getH3 q x k) (fun q _ t k=>t fun _ _ x _ _=>getH3 q x k) (fun q _ t k=>t fun _ _ _ x _=>getH3 q x k) (fun q _ t k=>t fun _ _ _ _ x=>getH3 q x k) (fun _ _=>.no)
noncomputable def updH4:Pq→HT4→(B3→(B3→A)→A)→(HT4→A)→A:=@Pq.rec (fun _=>HT4→(B3→(B3→A)→A)→(HT4→A)→A) (fun t u k=>t fun v a b c d=>u v fun x=>k (fun s=>s x a b c d)) (fun q _ t u k=>t fun v a b c d=>updH3 q a u fun y=>k (fun s=>s v y b c d)) (fun q _ t u k=>t fun v a b c d=>updH3 q b u fun y=>k (fun s=>s v a y c d)) (fun q _ t u k=>t fun v a b c d=>updH3 q c u fun y=>k (fun s=>s v a b y d)) (fun q _ t u k=>t fun v a b c d=>updH3 q d u fun y=>k (fun s=>s v a b c y)) (fun _ _ _=>.no)
noncomputable def emH4:HT4:=fun s=>s noB emH3 emH3 emH3 emH3
def HT5:Type:=Nd B3 HT4
noncomputable def getH5:Pq→HT5→(B3→A)→A:=@Pq.rec (fun _=>HT5→(B3→A)→A) (fun t k=>t fun v _ _ _ _=>k v) (fun q _ t k=>t fun _ x _ _ _=>getH4 q x k) (fun q _ t k=>t fun _ _ x _ _=>getH4 q x k) (fun q _ t k=>t fun _ _ _ x _=>getH4 q x k) (fun q _ t k=>t fun _ _ _ _ x=>getH4 q x k) (fun _ _=>.no)
noncomputable def updH5:Pq→HT5→(B3→(B3→A)→A)→(HT5→A)→A:=@Pq.rec (fun _=>HT5→(B3→(B3→A)→A)→(HT5→A)→A) (fun t u k=>t fun v a b c d=>u v fun x=>k (fun s=>s x a b c d)) (fun q _ t u k=>t fun v a b c d=>updH4 q a u fun y=>k (fun s=>s v y b c d)) (fun q _ t u k=>t fun v a b c d=>updH4 q b u fun y=>k (fun s=>s v a y c d)) (fun q _ t u k=>t fun v a b c d=>updH4 q c u fun y=>k (fun s=>s v a b y d)) (fun q _ t u k=>t fun v a b c d=>updH4 q d u fun y=>k (fun s=>s v a b c y)) (fun _ _ _=>.no)
noncomputable def emH5:HT5:=fun s=>s noB emH4 emH4 emH4 emH4
def HT6:Type:=Nd B3 HT5
noncomputable def getH6:Pq→HT6→(B3→A)→A:=@Pq.rec (fun _=>HT6→(B3→A)→A) (fun t k=>t fun v _ _ _ _=>k v) (fun q _ t k=>t fun _ x _ _ _=>getH5 q x k) (fun q _ t k=>t fun _ _ x _ _=>getH5 q x k) (fun q _ t k=>t fun _ _ _ x _=>getH5 q x k) (fun q _ t k=>t fun _ _ _ _ x=>getH5 q x k) (fun _ _=>.no)
noncomputable def updH6:Pq→HT6→(B3→(B3→A)→A)→(HT6→A)→A:=@Pq.rec (fun _=>HT6→(B3→(B3→A)→A)→(HT6→A)→A) (fun t u k=>t fun v a b c d=>u v fun x=>k (fun s=>s x a b c d)) (fun q _ t u k=>t fun v a b c d=>updH5 q a u fun y=>k (fun s=>s v y b c d)) (fun q _ t u k=>t fun v a b c d=>updH5 q b u fun y=>k (fun s=>s v a y c d)) (fun q _ t u k=>t fun v a b c d=>updH5 q c u fun y=>k (fun s=>s v a b y d)) (fun q _ t u k=>t fun v a b c d=>updH5 q d u fun y=>k (fun s=>s v a b c y)) (fun _ _ _=>.no)
noncomputable def emH6:HT6:=fun s=>s noB emH5 emH5 emH5 emH5
def HT7:Type:=Nd B3 HT6
noncomputable def getH7:Pq→HT7→(B3→A)→A:=@Pq.rec (fun _=>HT7→(B3→A)→A) (fun t k=>t fun v _ _ _ _=>k v) (fun q _ t k=>t fun _ x _ _ _=>getH6 q x k) (fun q _ t k=>t fun _ _ x _ _=>getH6 q x k) (fun q _ t k=>t fun _ _ _ x _=>getH6 q x k) (fun q _ t k=>t fun _ _ _ _ x=>getH6 q x k) (fun _ _=>.no)
noncomputable def updH7:Pq→HT7→(B3→(B3→A)→A)→(HT7→A)→A:=@Pq.rec (fun _=>HT7→(B3→(B3→A)→A)→(HT7→A)→A) (fun t u k=>t fun v a b c d=>u v fun x=>k (fun s=>s x a b c d)) (fun q _ t u k=>t fun v a b c d=>updH6 q a u fun y=>k (fun s=>s v y b c d)) (fun q _ t u k=>t fun v a b c d=>updH6 q b u fun y=>k (fun s=>s v a y c d)) (fun q _ t u k=>t fun v a b c d=>updH6 q c u fun y=>k (fun s=>s v a b y d)) (fun q _ t u k=>t fun v a b c d=>updH6 q d u fun y=>k (fun s=>s v a b c y)) (fun _ _ _=>.no)
noncomputable def emH7:HT7:=fun s=>s noB emH6 emH6 emH6 emH6
def HT8:Type:=Nd B3 HT7
noncomputable def getH8:Pq→HT8→(B3→A)→A:=@Pq.rec (fun _=>HT8→(B3→A)→A) (fun t k=>t fun v _ _ _ _=>k v) (fun q _ t k=>t fun _ x _ _ _=>getH7 q x k) (fun q _ t k=>t fun _ _ x _ _=>getH7 q x k) (fun q _ t k=>t fun _ _ _ x _=>getH7 q x k) (fun q _ t k=>t fun _ _ _ _ x=>getH7 q x k) (fun _ _=>.no)
noncomputable def updH8:Pq→HT8→(B3→(B3→A)→A)→(HT8→A)→A:=@Pq.rec (fun _=>HT8→(B3→(B3→A)→A)→(HT8→A)→A) (fun t u k=>t fun v a b c d=>u v fun x=>k (fun s=>s x a b c d)) (fun q _ t u k=>t fun v a b c d=>updH7 q a u fun y=>k (fun s=>s v y b c d)) (fun q _ t u k=>t fun v a b c d=>updH7 q b u fun y=>k (fun s=>s v a y c d)) (fun q _ t u k=>t fun v a b c d=>updH7 q c u fun y=>k (fun s=>s v a b y d)) (fun q _ t u k=>t fun v a b c d=>updH7 q d u fun y=>k (fun s=>s v a b c y)) (fun _ _ _=>.no)
noncomputable def emH8:HT8:=fun s=>s noB emH7 emH7 emH7 emH7
def HT9:Type:=Nd B3 HT8
noncomputable def getH9:Pq→HT9→(B3→A)→A:=@Pq.rec (fun _=>HT9→(B3→A)→A) (fun t k=>t fun v _ _ _ _=>k v) (fun q _ t k=>t fun _ x _ _ _=>getH8 q x k) (fun q _ t k=>t fun _ _ x _ _=>getH8 q x k) (fun q _ t k=>t fun _ _ _ x _=>getH8 q x k) (fun q _ t k=>t fun _ _ _ _ x=>getH8 q x k) (fun _ _=>.no)
noncomputable def updH9:Pq→HT9→(B3→(B3→A)→A)→(HT9→A)→A:=@Pq.rec (fun _=>HT9→(B3→(B3→A)→A)→(HT9→A)→A) (fun t u k=>t fun v a b c d=>u v fun x=>k (fun s=>s x a b c d)) (fun q _ t u k=>t fun v a b c d=>updH8 q a u fun y=>k (fun s=>s v y b c d)) (fun q _ t u k=>t fun v a b c d=>updH8 q b u fun y=>k (fun s=>s v a y c d)) (fun q _ t u k=>t fun v a b c d=>updH8 q c u fun y=>k (fun s=>s v a b y d)) (fun q _ t u k=>t fun v a b c d=>updH8 q d u fun y=>k (fun s=>s v a b c y)) (fun _ _ _=>.no)
noncomputable def emH9:HT9:=fun s=>s noB emH8 emH8 emH8 emH8
def HT10:Type:=Nd B3 HT9
noncomputable def getH10:Pq→HT10→(B3→A)→A:=@Pq.rec (fun _=>HT10→(B3→A)→A) (fun t k=>t fun v _ _ _ _=>k v) (fun q _ t k=>t fun _ x _ _ _=>getH9 q x k) (fun q _ t k=>t fun _ _ x _ _=>getH9 q x k) (fun q _ t k=>t fun _ _ _ x _=>getH9 q x k) (fun q _ t k=>t fun _ _ _ _ x=>getH9 q x k) (fun _ _=>.no)
noncomputable def updH10:Pq→HT10→(B3→(B3→A)→A)→(HT10→A)→A:=@Pq.rec (fun _=>HT10→(B3→(B3→A)→A)→(HT10→A)→A) (fun t u k=>t fun v a b c d=>u v fun x=>k (fun s=>s x a b c d)) (fun q _ t u k=>t fun v a b c d=>updH9 q a u fun y=>k (fun s=>s v y b c d)) (fun q _ t u k=>t fun v a b c d=>updH9 q b u fun y=>k (fun s=>s v a y c d)) (fun q _ t u k=>t fun v a b c d=>updH9 q c u fun y=>k (fun s=>s v a b y d)) (fun q _ t u k=>t fun v a b c d=>updH9 q d u fun y=>k (fun s=>s v a b c y)) (fun _ _ _=>.no)
noncomputable def emH10:HT10:=fun s=>s noB emH9 emH9 emH9 emH9
abbrev H3:=HT10
noncomputable def cget (c:C3) (o:Nat) (k:RV→A):A:=getC9 (pathF 12 o) c k
noncomputable def cupd (c:C3) (o:Nat) (u:RV→(RV→A)→A) (k:C3→A):A:=updC9 (pathF 12 o) c u k
noncomputable def hget (h:H3) (b:Nat) (k:B3→A):A:=getH10 (pathF 12 b) h k
noncomputable def hupd (h:H3) (b:Nat) (u:B3→(B3→A)→A) (k:H3→A):A:=updH10 (pathF 12 b) h u k
noncomputable def ce3:C3:=emC9
noncomputable def he3:H3:=emH10
/-! frames of closures: 64 slots in two steps,512 more in four -/
abbrev L8:=(RV→RV→RV→RV→RV→RV→RV→RV→A)→A
abbrev M8:=(L8→L8→L8→L8→L8→L8→L8→L8→A)→A
abbrev N8:=(M8→M8→M8→M8→M8→M8→M8→M8→A)→A
abbrev F3:=(L8→L8→L8→L8→L8→L8→L8→L8→N8→A)→A
abbrev G3:=F3→(RV→A)→A
abbrev S3:=F3→RV→(F3→A)→A
inductive Gw where | mk (g:G3)
inductive Sw where | mk (g:S3)
noncomputable def mkL (f:Nat→RV) (o:Nat):L8:=fun k=>k (f o) (f (o+1)) (f (o+2)) (f (o+3)) (f (o+4)) (f (o+5)) (f (o+6)) (f (o+7))
noncomputable def mkM (f:Nat→RV) (o:Nat):M8:=fun k=>k (mkL f o) (mkL f (o+8)) (mkL f (o+16)) (mkL f (o+24)) (mkL f (o+32)) (mkL f (o+40)) (mkL f (o+48)) (mkL f (o+56))
noncomputable def mkN (f:Nat→RV) (o:Nat):N8:=fun k=>k (mkM f o) (mkM f (o+64)) (mkM f (o+128)) (mkM f (o+192)) (mkM f (o+256)) (mkM f (o+320)) (mkM f (o+384)) (mkM f (o+448))
noncomputable def mkF (f:Nat→RV):F3:=fun k=>k (mkL f 0) (mkL f 8) (mkL f 16) (mkL f 24) (mkL f 32) (mkL f 40) (mkL f 48) (mkL f 56) (mkN f 64)
noncomputable def l0:L8:=fun k=>k .un .un .un .un .un .un .un .un
noncomputable def mm0:M8:=fun k=>k l0 l0 l0 l0 l0 l0 l0 l0
noncomputable def nn0:N8:=fun k=>k mm0 mm0 mm0 mm0 mm0 mm0 mm0 mm0
noncomputable def f0:F3:=fun k=>k l0 l0 l0 l0 l0 l0 l0 l0 nn0
noncomputable def gs00:G3:=fun t k=>t fun a _ _ _ _ _ _ _ _=>a fun y _ _ _ _ _ _ _=>k y
noncomputable def ss00:S3:=fun t y k=>t fun a b c d e f g h n=>a fun _ q r s t u v x=>k (fun z=>z (fun z=>z y q r s t u v x) b c d e f g h n)
noncomputable def gs01:G3:=fun t k=>t fun a _ _ _ _ _ _ _ _=>a fun _ y _ _ _ _ _ _=>k y
noncomputable def ss01:S3:=fun t y k=>t fun a b c d e f g h n=>a fun p _ r s t u v x=>k (fun z=>z (fun z=>z p y r s t u v x) b c d e f g h n)
noncomputable def gs02:G3:=fun t k=>t fun a _ _ _ _ _ _ _ _=>a fun _ _ y _ _ _ _ _=>k y
noncomputable def ss02:S3:=fun t y k=>t fun a b c d e f g h n=>a fun p q _ s t u v x=>k (fun z=>z (fun z=>z p q y s t u v x) b c d e f g h n)
noncomputable def gs03:G3:=fun t k=>t fun a _ _ _ _ _ _ _ _=>a fun _ _ _ y _ _ _ _=>k y
noncomputable def ss03:S3:=fun t y k=>t fun a b c d e f g h n=>a fun p q r _ t u v x=>k (fun z=>z (fun z=>z p q r y t u v x) b c d e f g h n)
noncomputable def gs04:G3:=fun t k=>t fun a _ _ _ _ _ _ _ _=>a fun _ _ _ _ y _ _ _=>k y
noncomputable def ss04:S3:=fun t y k=>t fun a b c d e f g h n=>a fun p q r s _ u v x=>k (fun z=>z (fun z=>z p q r s y u v x) b c d e f g h n)
noncomputable def gs05:G3:=fun t k=>t fun a _ _ _ _ _ _ _ _=>a fun _ _ _ _ _ y _ _=>k y
noncomputable def ss05:S3:=fun t y k=>t fun a b c d e f g h n=>a fun p q r s t _ v x=>k (fun z=>z (fun z=>z p q r s t y v x) b c d e f g h n)
noncomputable def gs06:G3:=fun t k=>t fun a _ _ _ _ _ _ _ _=>a fun _ _ _ _ _ _ y _=>k y
noncomputable def ss06:S3:=fun t y k=>t fun a b c d e f g h n=>a fun p q r s t u _ x=>k (fun z=>z (fun z=>z p q r s t u y x) b c d e f g h n)
noncomputable def gs07:G3:=fun t k=>t fun a _ _ _ _ _ _ _ _=>a fun _ _ _ _ _ _ _ y=>k y
noncomputable def ss07:S3:=fun t y k=>t fun a b c d e f g h n=>a fun p q r s t u v _=>k (fun z=>z (fun z=>z p q r s t u v y) b c d e f g h n)
noncomputable def gs10:G3:=fun t k=>t fun _ b _ _ _ _ _ _ _=>b fun y _ _ _ _ _ _ _=>k y
noncomputable def ss10:S3:=fun t y k=>t fun a b c d e f g h n=>b fun _ q r s t u v x=>k (fun z=>z a (fun z=>z y q r s t u v x) c d e f g h n)
noncomputable def gs11:G3:=fun t k=>t fun _ b _ _ _ _ _ _ _=>b fun _ y _ _ _ _ _ _=>k y
noncomputable def ss11:S3:=fun t y k=>t fun a b c d e f g h n=>b fun p _ r s t u v x=>k (fun z=>z a (fun z=>z p y r s t u v x) c d e f g h n)
noncomputable def gs12:G3:=fun t k=>t fun _ b _ _ _ _ _ _ _=>b fun _ _ y _ _ _ _ _=>k y
noncomputable def ss12:S3:=fun t y k=>t fun a b c d e f g h n=>b fun p q _ s t u v x=>k (fun z=>z a (fun z=>z p q y s t u v x) c d e f g h n)
noncomputable def gs13:G3:=fun t k=>t fun _ b _ _ _ _ _ _ _=>b fun _ _ _ y _ _ _ _=>k y
noncomputable def ss13:S3:=fun t y k=>t fun a b c d e f g h n=>b fun p q r _ t u v x=>k (fun z=>z a (fun z=>z p q r y t u v x) c d e f g h n)
noncomputable def gs14:G3:=fun t k=>t fun _ b _ _ _ _ _ _ _=>b fun _ _ _ _ y _ _ _=>k y
noncomputable def ss14:S3:=fun t y k=>t fun a b c d e f g h n=>b fun p q r s _ u v x=>k (fun z=>z a (fun z=>z p q r s y u v x) c d e f g h n)
noncomputable def gs15:G3:=fun t k=>t fun _ b _ _ _ _ _ _ _=>b fun _ _ _ _ _ y _ _=>k y
noncomputable def ss15:S3:=fun t y k=>t fun a b c d e f g h n=>b fun p q r s t _ v x=>k (fun z=>z a (fun z=>z p q r s t y v x) c d e f g h n)
noncomputable def gs16:G3:=fun t k=>t fun _ b _ _ _ _ _ _ _=>b fun _ _ _ _ _ _ y _=>k y
noncomputable def ss16:S3:=fun t y k=>t fun a b c d e f g h n=>b fun p q r s t u _ x=>k (fun z=>z a (fun z=>z p q r s t u y x) c d e f g h n)
noncomputable def gs17:G3:=fun t k=>t fun _ b _ _ _ _ _ _ _=>b fun _ _ _ _ _ _ _ y=>k y
noncomputable def ss17:S3:=fun t y k=>t fun a b c d e f g h n=>b fun p q r s t u v _=>k (fun z=>z a (fun z=>z p q r s t u v y) c d e f g h n)
noncomputable def gs20:G3:=fun t k=>t fun _ _ c _ _ _ _ _ _=>c fun y _ _ _ _ _ _ _=>k y
noncomputable def ss20:S3:=fun t y k=>t fun a b c d e f g h n=>c fun _ q r s t u v x=>k (fun z=>z a b (fun z=>z y q r s t u v x) d e f g h n)
noncomputable def gs21:G3:=fun t k=>t fun _ _ c _ _ _ _ _ _=>c fun _ y _ _ _ _ _ _=>k y
noncomputable def ss21:S3:=fun t y k=>t fun a b c d e f g h n=>c fun p _ r s t u v x=>k (fun z=>z a b (fun z=>z p y r s t u v x) d e f g h n)
noncomputable def gs22:G3:=fun t k=>t fun _ _ c _ _ _ _ _ _=>c fun _ _ y _ _ _ _ _=>k y
noncomputable def ss22:S3:=fun t y k=>t fun a b c d e f g h n=>c fun p q _ s t u v x=>k (fun z=>z a b (fun z=>z p q y s t u v x) d e f g h n)
noncomputable def gs23:G3:=fun t k=>t fun _ _ c _ _ _ _ _ _=>c fun _ _ _ y _ _ _ _=>k y
noncomputable def ss23:S3:=fun t y k=>t fun a b c d e f g h n=>c fun p q r _ t u v x=>k (fun z=>z a b (fun z=>z p q r y t u v x) d e f g h n)
noncomputable def gs24:G3:=fun t k=>t fun _ _ c _ _ _ _ _ _=>c fun _ _ _ _ y _ _ _=>k y
noncomputable def ss24:S3:=fun t y k=>t fun a b c d e f g h n=>c fun p q r s _ u v x=>k (fun z=>z a b (fun z=>z p q r s y u v x) d e f g h n)
noncomputable def gs25:G3:=fun t k=>t fun _ _ c _ _ _ _ _ _=>c fun _ _ _ _ _ y _ _=>k y
noncomputable def ss25:S3:=fun t y k=>t fun a b c d e f g h n=>c fun p q r s t _ v x=>k (fun z=>z a b (fun z=>z p q r s t y v x) d e f g h n)
noncomputable def gs26:G3:=fun t k=>t fun _ _ c _ _ _ _ _ _=>c fun _ _ _ _ _ _ y _=>k y
noncomputable def ss26:S3:=fun t y k=>t fun a b c d e f g h n=>c fun p q r s t u _ x=>k (fun z=>z a b (fun z=>z p q r s t u y x) d e f g h n)
noncomputable def gs27:G3:=fun t k=>t fun _ _ c _ _ _ _ _ _=>c fun _ _ _ _ _ _ _ y=>k y
noncomputable def ss27:S3:=fun t y k=>t fun a b c d e f g h n=>c fun p q r s t u v _=>k (fun z=>z a b (fun z=>z p q r s t u v y) d e f g h n)
noncomputable def gs30:G3:=fun t k=>t fun _ _ _ d _ _ _ _ _=>d fun y _ _ _ _ _ _ _=>k y
noncomputable def ss30:S3:=fun t y k=>t fun a b c d e f g h n=>d fun _ q r s t u v x=>k (fun z=>z a b c (fun z=>z y q r s t u v x) e f g h n)
noncomputable def gs31:G3:=fun t k=>t fun _ _ _ d _ _ _ _ _=>d fun _ y _ _ _ _ _ _=>k y
noncomputable def ss31:S3:=fun t y k=>t fun a b c d e f g h n=>d fun p _ r s t u v x=>k (fun z=>z a b c (fun z=>z p y r s t u v x) e f g h n)
noncomputable def gs32:G3:=fun t k=>t fun _ _ _ d _ _ _ _ _=>d fun _ _ y _ _ _ _ _=>k y
noncomputable def ss32:S3:=fun t y k=>t fun a b c d e f g h n=>d fun p q _ s t u v x=>k (fun z=>z a b c (fun z=>z p q y s t u v x) e f g h n)
noncomputable def gs33:G3:=fun t k=>t fun _ _ _ d _ _ _ _ _=>d fun _ _ _ y _ _ _ _=>k y
noncomputable def ss33:S3:=fun t y k=>t fun a b c d e f g h n=>d fun p q r _ t u v x=>k (fun z=>z a b c (fun z=>z p q r y t u v x) e f g h n)
noncomputable def gs34:G3:=fun t k=>t fun _ _ _ d _ _ _ _ _=>d fun _ _ _ _ y _ _ _=>k y
noncomputable def ss34:S3:=fun t y k=>t fun a b c d e f g h n=>d fun p q r s _ u v x=>k (fun z=>z a b c (fun z=>z p q r s y u v x) e f g h n)
noncomputable def gs35:G3:=fun t k=>t fun _ _ _ d _ _ _ _ _=>d fun _ _ _ _ _ y _ _=>k y
noncomputable def ss35:S3:=fun t y k=>t fun a b c d e f g h n=>d fun p q r s t _ v x=>k (fun z=>z a b c (fun z=>z p q r s t y v x) e f g h n)
noncomputable def gs36:G3:=fun t k=>t fun _ _ _ d _ _ _ _ _=>d fun _ _ _ _ _ _ y _=>k y
noncomputable def ss36:S3:=fun t y k=>t fun a b c d e f g h n=>d fun p q r s t u _ x=>k (fun z=>z a b c (fun z=>z p q r s t u y x) e f g h n)
noncomputable def gs37:G3:=fun t k=>t fun _ _ _ d _ _ _ _ _=>d fun _ _ _ _ _ _ _ y=>k y
noncomputable def ss37:S3:=fun t y k=>t fun a b c d e f g h n=>d fun p q r s t u v _=>k (fun z=>z a b c (fun z=>z p q r s t u v y) e f g h n)
noncomputable def gs40:G3:=fun t k=>t fun _ _ _ _ e _ _ _ _=>e fun y _ _ _ _ _ _ _=>k y
noncomputable def ss40:S3:=fun t y k=>t fun a b c d e f g h n=>e fun _ q r s t u v x=>k (fun z=>z a b c d (fun z=>z y q r s t u v x) f g h n)
noncomputable def gs41:G3:=fun t k=>t fun _ _ _ _ e _ _ _ _=>e fun _ y _ _ _ _ _ _=>k y
noncomputable def ss41:S3:=fun t y k=>t fun a b c d e f g h n=>e fun p _ r s t u v x=>k (fun z=>z a b c d (fun z=>z p y r s t u v x) f g h n)
noncomputable def gs42:G3:=fun t k=>t fun _ _ _ _ e _ _ _ _=>e fun _ _ y _ _ _ _ _=>k y
noncomputable def ss42:S3:=fun t y k=>t fun a b c d e f g h n=>e fun p q _ s t u v x=>k (fun z=>z a b c d (fun z=>z p q y s t u v x) f g h n)
noncomputable def gs43:G3:=fun t k=>t fun _ _ _ _ e _ _ _ _=>e fun _ _ _ y _ _ _ _=>k y
noncomputable def ss43:S3:=fun t y k=>t fun a b c d e f g h n=>e fun p q r _ t u v x=>k (fun z=>z a b c d (fun z=>z p q r y t u v x) f g h n)
noncomputable def gs44:G3:=fun t k=>t fun _ _ _ _ e _ _ _ _=>e fun _ _ _ _ y _ _ _=>k y
noncomputable def ss44:S3:=fun t y k=>t fun a b c d e f g h n=>e fun p q r s _ u v x=>k (fun z=>z a b c d (fun z=>z p q r s y u v x) f g h n)
noncomputable def gs45:G3:=fun t k=>t fun _ _ _ _ e _ _ _ _=>e fun _ _ _ _ _ y _ _=>k y
noncomputable def ss45:S3:=fun t y k=>t fun a b c d e f g h n=>e fun p q r s t _ v x=>k (fun z=>z a b c d (fun z=>z p q r s t y v x) f g h n)
noncomputable def gs46:G3:=fun t k=>t fun _ _ _ _ e _ _ _ _=>e fun _ _ _ _ _ _ y _=>k y
noncomputable def ss46:S3:=fun t y k=>t fun a b c d e f g h n=>e fun p q r s t u _ x=>k (fun z=>z a b c d (fun z=>z p q r s t u y x) f g h n)
noncomputable def gs47:G3:=fun t k=>t fun _ _ _ _ e _ _ _ _=>e fun _ _ _ _ _ _ _ y=>k y
noncomputable def ss47:S3:=fun t y k=>t fun a b c d e f g h n=>e fun p q r s t u v _=>k (fun z=>z a b c d (fun z=>z p q r s t u v y) f g h n)
noncomputable def gs50:G3:=fun t k=>t fun _ _ _ _ _ f _ _ _=>f fun y _ _ _ _ _ _ _=>k y
noncomputable def ss50:S3:=fun t y k=>t fun a b c d e f g h n=>f fun _ q r s t u v x=>k (fun z=>z a b c d e (fun z=>z y q r s t u v x) g h n)
noncomputable def gs51:G3:=fun t k=>t fun _ _ _ _ _ f _ _ _=>f fun _ y _ _ _ _ _ _=>k y
noncomputable def ss51:S3:=fun t y k=>t fun a b c d e f g h n=>f fun p _ r s t u v x=>k (fun z=>z a b c d e (fun z=>z p y r s t u v x) g h n)
noncomputable def gs52:G3:=fun t k=>t fun _ _ _ _ _ f _ _ _=>f fun _ _ y _ _ _ _ _=>k y
noncomputable def ss52:S3:=fun t y k=>t fun a b c d e f g h n=>f fun p q _ s t u v x=>k (fun z=>z a b c d e (fun z=>z p q y s t u v x) g h n)
noncomputable def gs53:G3:=fun t k=>t fun _ _ _ _ _ f _ _ _=>f fun _ _ _ y _ _ _ _=>k y
noncomputable def ss53:S3:=fun t y k=>t fun a b c d e f g h n=>f fun p q r _ t u v x=>k (fun z=>z a b c d e (fun z=>z p q r y t u v x) g h n)
noncomputable def gs54:G3:=fun t k=>t fun _ _ _ _ _ f _ _ _=>f fun _ _ _ _ y _ _ _=>k y
noncomputable def ss54:S3:=fun t y k=>t fun a b c d e f g h n=>f fun p q r s _ u v x=>k (fun z=>z a b c d e (fun z=>z p q r s y u v x) g h n)
noncomputable def gs55:G3:=fun t k=>t fun _ _ _ _ _ f _ _ _=>f fun _ _ _ _ _ y _ _=>k y
noncomputable def ss55:S3:=fun t y k=>t fun a b c d e f g h n=>f fun p q r s t _ v x=>k (fun z=>z a b c d e (fun z=>z p q r s t y v x) g h n)
noncomputable def gs56:G3:=fun t k=>t fun _ _ _ _ _ f _ _ _=>f fun _ _ _ _ _ _ y _=>k y
noncomputable def ss56:S3:=fun t y k=>t fun a b c d e f g h n=>f fun p q r s t u _ x=>k (fun z=>z a b c d e (fun z=>z p q r s t u y x) g h n)
noncomputable def gs57:G3:=fun t k=>t fun _ _ _ _ _ f _ _ _=>f fun _ _ _ _ _ _ _ y=>k y
noncomputable def ss57:S3:=fun t y k=>t fun a b c d e f g h n=>f fun p q r s t u v _=>k (fun z=>z a b c d e (fun z=>z p q r s t u v y) g h n)
noncomputable def gs60:G3:=fun t k=>t fun _ _ _ _ _ _ g _ _=>g fun y _ _ _ _ _ _ _=>k y
noncomputable def ss60:S3:=fun t y k=>t fun a b c d e f g h n=>g fun _ q r s t u v x=>k (fun z=>z a b c d e f (fun z=>z y q r s t u v x) h n)
noncomputable def gs61:G3:=fun t k=>t fun _ _ _ _ _ _ g _ _=>g fun _ y _ _ _ _ _ _=>k y
noncomputable def ss61:S3:=fun t y k=>t fun a b c d e f g h n=>g fun p _ r s t u v x=>k (fun z=>z a b c d e f (fun z=>z p y r s t u v x) h n)
noncomputable def gs62:G3:=fun t k=>t fun _ _ _ _ _ _ g _ _=>g fun _ _ y _ _ _ _ _=>k y
noncomputable def ss62:S3:=fun t y k=>t fun a b c d e f g h n=>g fun p q _ s t u v x=>k (fun z=>z a b c d e f (fun z=>z p q y s t u v x) h n)
noncomputable def gs63:G3:=fun t k=>t fun _ _ _ _ _ _ g _ _=>g fun _ _ _ y _ _ _ _=>k y
noncomputable def ss63:S3:=fun t y k=>t fun a b c d e f g h n=>g fun p q r _ t u v x=>k (fun z=>z a b c d e f (fun z=>z p q r y t u v x) h n)
noncomputable def gs64:G3:=fun t k=>t fun _ _ _ _ _ _ g _ _=>g fun _ _ _ _ y _ _ _=>k y
noncomputable def ss64:S3:=fun t y k=>t fun a b c d e f g h n=>g fun p q r s _ u v x=>k (fun z=>z a b c d e f (fun z=>z p q r s y u v x) h n)
noncomputable def gs65:G3:=fun t k=>t fun _ _ _ _ _ _ g _ _=>g fun _ _ _ _ _ y _ _=>k y
noncomputable def ss65:S3:=fun t y k=>t fun a b c d e f g h n=>g fun p q r s t _ v x=>k (fun z=>z a b c d e f (fun z=>z p q r s t y v x) h n)
noncomputable def gs66:G3:=fun t k=>t fun _ _ _ _ _ _ g _ _=>g fun _ _ _ _ _ _ y _=>k y
noncomputable def ss66:S3:=fun t y k=>t fun a b c d e f g h n=>g fun p q r s t u _ x=>k (fun z=>z a b c d e f (fun z=>z p q r s t u y x) h n)
noncomputable def gs67:G3:=fun t k=>t fun _ _ _ _ _ _ g _ _=>g fun _ _ _ _ _ _ _ y=>k y
noncomputable def ss67:S3:=fun t y k=>t fun a b c d e f g h n=>g fun p q r s t u v _=>k (fun z=>z a b c d e f (fun z=>z p q r s t u v y) h n)
noncomputable def gs70:G3:=fun t k=>t fun _ _ _ _ _ _ _ h _=>h fun y _ _ _ _ _ _ _=>k y
noncomputable def ss70:S3:=fun t y k=>t fun a b c d e f g h n=>h fun _ q r s t u v x=>k (fun z=>z a b c d e f g (fun z=>z y q r s t u v x) n)
noncomputable def gs71:G3:=fun t k=>t fun _ _ _ _ _ _ _ h _=>h fun _ y _ _ _ _ _ _=>k y
noncomputable def ss71:S3:=fun t y k=>t fun a b c d e f g h n=>h fun p _ r s t u v x=>k (fun z=>z a b c d e f g (fun z=>z p y r s t u v x) n)
noncomputable def gs72:G3:=fun t k=>t fun _ _ _ _ _ _ _ h _=>h fun _ _ y _ _ _ _ _=>k y
noncomputable def ss72:S3:=fun t y k=>t fun a b c d e f g h n=>h fun p q _ s t u v x=>k (fun z=>z a b c d e f g (fun z=>z p q y s t u v x) n)
noncomputable def gs73:G3:=fun t k=>t fun _ _ _ _ _ _ _ h _=>h fun _ _ _ y _ _ _ _=>k y
noncomputable def ss73:S3:=fun t y k=>t fun a b c d e f g h n=>h fun p q r _ t u v x=>k (fun z=>z a b c d e f g (fun z=>z p q r y t u v x) n)
noncomputable def gs74:G3:=fun t k=>t fun _ _ _ _ _ _ _ h _=>h fun _ _ _ _ y _ _ _=>k y
noncomputable def ss74:S3:=fun t y k=>t fun a b c d e f g h n=>h fun p q r s _ u v x=>k (fun z=>z a b c d e f g (fun z=>z p q r s y u v x) n)
noncomputable def gs75:G3:=fun t k=>t fun _ _ _ _ _ _ _ h _=>h fun _ _ _ _ _ y _ _=>k y
noncomputable def ss75:S3:=fun t y k=>t fun a b c d e f g h n=>h fun p q r s t _ v x=>k (fun z=>z a b c d e f g (fun z=>z p q r s t y v x) n)
noncomputable def gs76:G3:=fun t k=>t fun _ _ _ _ _ _ _ h _=>h fun _ _ _ _ _ _ y _=>k y
noncomputable def ss76:S3:=fun t y k=>t fun a b c d e f g h n=>h fun p q r s t u _ x=>k (fun z=>z a b c d e f g (fun z=>z p q r s t u y x) n)
noncomputable def gs77:G3:=fun t k=>t fun _ _ _ _ _ _ _ h _=>h fun _ _ _ _ _ _ _ y=>k y
noncomputable def ss77:S3:=fun t y k=>t fun a b c d e f g h n=>h fun p q r s t u v _=>k (fun z=>z a b c d e f g (fun z=>z p q r s t u v y) n)
noncomputable def pN0:N8→(M8→A)→A:=fun t k=>t fun y _ _ _ _ _ _ _=>k y
noncomputable def pN1:N8→(M8→A)→A:=fun t k=>t fun _ y _ _ _ _ _ _=>k y
noncomputable def pN2:N8→(M8→A)→A:=fun t k=>t fun _ _ y _ _ _ _ _=>k y
noncomputable def pN3:N8→(M8→A)→A:=fun t k=>t fun _ _ _ y _ _ _ _=>k y
noncomputable def pN4:N8→(M8→A)→A:=fun t k=>t fun _ _ _ _ y _ _ _=>k y
noncomputable def pN5:N8→(M8→A)→A:=fun t k=>t fun _ _ _ _ _ y _ _=>k y
noncomputable def pN6:N8→(M8→A)→A:=fun t k=>t fun _ _ _ _ _ _ y _=>k y
noncomputable def pN7:N8→(M8→A)→A:=fun t k=>t fun _ _ _ _ _ _ _ y=>k y
noncomputable def pM0:M8→(L8→A)→A:=fun t k=>t fun y _ _ _ _ _ _ _=>k y
noncomputable def pM1:M8→(L8→A)→A:=fun t k=>t fun _ y _ _ _ _ _ _=>k y
noncomputable def pM2:M8→(L8→A)→A:=fun t k=>t fun _ _ y _ _ _ _ _=>k y
noncomputable def pM3:M8→(L8→A)→A:=fun t k=>t fun _ _ _ y _ _ _ _=>k y
noncomputable def pM4:M8→(L8→A)→A:=fun t k=>t fun _ _ _ _ y _ _ _=>k y
noncomputable def pM5:M8→(L8→A)→A:=fun t k=>t fun _ _ _ _ _ y _ _=>k y
noncomputable def pM6:M8→(L8→A)→A:=fun t k=>t fun _ _ _ _ _ _ y _=>k y
noncomputable def pM7:M8→(L8→A)→A:=fun t k=>t fun _ _ _ _ _ _ _ y=>k y
noncomputable def pL0:L8→(RV→A)→A:=fun t k=>t fun y _ _ _ _ _ _ _=>k y
noncomputable def pL1:L8→(RV→A)→A:=fun t k=>t fun _ y _ _ _ _ _ _=>k y
noncomputable def pL2:L8→(RV→A)→A:=fun t k=>t fun _ _ y _ _ _ _ _=>k y
noncomputable def pL3:L8→(RV→A)→A:=fun t k=>t fun _ _ _ y _ _ _ _=>k y
noncomputable def pL4:L8→(RV→A)→A:=fun t k=>t fun _ _ _ _ y _ _ _=>k y
noncomputable def pL5:L8→(RV→A)→A:=fun t k=>t fun _ _ _ _ _ y _ _=>k y
noncomputable def pL6:L8→(RV→A)→A:=fun t k=>t fun _ _ _ _ _ _ y _=>k y
noncomputable def pL7:L8→(RV→A)→A:=fun t k=>t fun _ _ _ _ _ _ _ y=>k y
noncomputable def uN0:N8→(M8→(M8→A)→A)→(N8→A)→A:=fun t u k=>t fun a b c d e f g h=>u a fun y=>k (fun s=>s y b c d e f g h)
noncomputable def uN1:N8→(M8→(M8→A)→A)→(N8→A)→A:=fun t u k=>t fun a b c d e f g h=>u b fun y=>k (fun s=>s a y c d e f g h)
noncomputable def uN2:N8→(M8→(M8→A)→A)→(N8→A)→A:=fun t u k=>t fun a b c d e f g h=>u c fun y=>k (fun s=>s a b y d e f g h)
noncomputable def uN3:N8→(M8→(M8→A)→A)→(N8→A)→A:=fun t u k=>t fun a b c d e f g h=>u d fun y=>k (fun s=>s a b c y e f g h)
noncomputable def uN4:N8→(M8→(M8→A)→A)→(N8→A)→A:=fun t u k=>t fun a b c d e f g h=>u e fun y=>k (fun s=>s a b c d y f g h)
noncomputable def uN5:N8→(M8→(M8→A)→A)→(N8→A)→A:=fun t u k=>t fun a b c d e f g h=>u f fun y=>k (fun s=>s a b c d e y g h)
noncomputable def uN6:N8→(M8→(M8→A)→A)→(N8→A)→A:=fun t u k=>t fun a b c d e f g h=>u g fun y=>k (fun s=>s a b c d e f y h)
noncomputable def uN7:N8→(M8→(M8→A)→A)→(N8→A)→A:=fun t u k=>t fun a b c d e f g h=>u h fun y=>k (fun s=>s a b c d e f g y)
noncomputable def uM0:M8→(L8→(L8→A)→A)→(M8→A)→A:=fun t u k=>t fun a b c d e f g h=>u a fun y=>k (fun s=>s y b c d e f g h)
noncomputable def uM1:M8→(L8→(L8→A)→A)→(M8→A)→A:=fun t u k=>t fun a b c d e f g h=>u b fun y=>k (fun s=>s a y c d e f g h)
noncomputable def uM2:M8→(L8→(L8→A)→A)→(M8→A)→A:=fun t u k=>t fun a b c d e f g h=>u c fun y=>k (fun s=>s a b y d e f g h)
noncomputable def uM3:M8→(L8→(L8→A)→A)→(M8→A)→A:=fun t u k=>t fun a b c d e f g h=>u d fun y=>k (fun s=>s a b c y e f g h)
noncomputable def uM4:M8→(L8→(L8→A)→A)→(M8→A)→A:=fun t u k=>t fun a b c d e f g h=>u e fun y=>k (fun s=>s a b c d y f g h)
noncomputable def uM5:M8→(L8→(L8→A)→A)→(M8→A)→A:=fun t u k=>t fun a b c d e f g h=>u f fun y=>k (fun s=>s a b c d e y g h)
noncomputable def uM6:M8→(L8→(L8→A)→A)→(M8→A)→A:=fun t u k=>t fun a b c d e f g h=>u g fun y=>k (fun s=>s a b c d e f y h)
noncomputable def uM7:M8→(L8→(L8→A)→A)→(M8→A)→A:=fun t u k=>t fun a b c d e f g h=>u h fun y=>k (fun s=>s a b c d e f g y)
noncomputable def uL0:L8→(RV→(RV→A)→A)→(L8→A)→A:=fun t u k=>t fun a b c d e f g h=>u a fun y=>k (fun s=>s y b c d e f g h)
noncomputable def uL1:L8→(RV→(RV→A)→A)→(L8→A)→A:=fun t u k=>t fun a b c d e f g h=>u b fun y=>k (fun s=>s a y c d e f g h)
noncomputable def uL2:L8→(RV→(RV→A)→A)→(L8→A)→A:=fun t u k=>t fun a b c d e f g h=>u c fun y=>k (fun s=>s a b y d e f g h)
noncomputable def uL3:L8→(RV→(RV→A)→A)→(L8→A)→A:=fun t u k=>t fun a b c d e f g h=>u d fun y=>k (fun s=>s a b c y e f g h)
noncomputable def uL4:L8→(RV→(RV→A)→A)→(L8→A)→A:=fun t u k=>t fun a b c d e f g h=>u e fun y=>k (fun s=>s a b c d y f g h)
noncomputable def uL5:L8→(RV→(RV→A)→A)→(L8→A)→A:=fun t u k=>t fun a b c d e f g h=>u f fun y=>k (fun s=>s a b c d e y g h)
noncomputable def uL6:L8→(RV→(RV→A)→A)→(L8→A)→A:=fun t u k=>t fun a b c d e f g h=>u g fun y=>k (fun s=>s a b c d e f y h)
noncomputable def uL7:L8→(RV→(RV→A)→A)→(L8→A)→A:=fun t u k=>t fun a b c d e f g h=>u h fun y=>k (fun s=>s a b c d e f g y)
noncomputable def gBig (pn:N8→(M8→A)→A) (pm:M8→(L8→A)→A) (pl:L8→(RV→A)→A):G3:=fun t k=>t fun _ _ _ _ _ _ _ _ n=>pn n fun m=>pm m fun l=>pl l k
noncomputable def sBig (un:N8→(M8→(M8→A)→A)→(N8→A)→A) (um:M8→(L8→(L8→A)→A)→(M8→A)→A) (ul:L8→(RV→(RV→A)→A)→(L8→A)→A):S3:=fun t v k=>t fun a b c d e f g h n=>un n (fun m c=>um m (fun l c=>ul l (fun _ c=>c v) c) c) fun n=>k (fun s=>s a b c d e f g h n)
noncomputable def nth8 {X:Type} (d a b c e f g h i:X) (k:Nat):X:=match k with | 0=>a | 1=>b | 2=>c | 3=>e | 4=>f | 5=>g | 6=>h | 7=>i | _=>d
noncomputable def getK (k:Nat):Gw:=bf (Nat.ble k 63) (nth8 (.mk (fun _ _=>.no)) (nth8 (.mk (fun _ _=>.no)) (.mk gs00) (.mk gs01) (.mk gs02) (.mk gs03) (.mk gs04) (.mk gs05) (.mk gs06) (.mk gs07) (Nat.mod k 8)) (nth8 (.mk (fun _ _=>.no)) (.mk gs10) (.mk gs11) (.mk gs12) (.mk gs13) (.mk gs14) (.mk gs15) (.mk gs16) (.mk gs17) (Nat.mod k 8)) (nth8 (.mk (fun _ _=>.no)) (.mk gs20) (.mk gs21) (.mk gs22) (.mk gs23) (.mk gs24) (.mk gs25) (.mk gs26) (.mk gs27) (Nat.mod k 8)) (nth8 (.mk (fun _ _=>.no)) (.mk gs30) (.mk gs31) (.mk gs32) (.mk gs33) (.mk gs34) (.mk gs35) (.mk gs36) (.mk gs37) (Nat.mod k 8)) (nth8 (.mk (fun _ _=>.no)) (.mk gs40) (.mk gs41) (.mk gs42) (.mk gs43) (.mk gs44) (.mk gs45) (.mk gs46) (.mk gs47) (Nat.mod k 8)) (nth8 (.mk (fun _ _=>.no)) (.mk gs50) (.mk gs51) (.mk gs52) (.mk gs53) (.mk gs54) (.mk gs55) (.mk gs56) (.mk gs57) (Nat.mod k 8)) (nth8 (.mk (fun _ _=>.no)) (.mk gs60) (.mk gs61) (.mk gs62) (.mk gs63) (.mk gs64) (.mk gs65) (.mk gs66) (.mk gs67) (Nat.mod k 8)) (nth8 (.mk (fun _ _=>.no)) (.mk gs70) (.mk gs71) (.mk gs72) (.mk gs73) (.mk gs74) (.mk gs75) (.mk gs76) (.mk gs77) (Nat.mod k 8)) (Nat.div k 8)) (bf (Nat.ble k 575) (.mk (gBig (nth8 (fun _ _=>.no) pN0 pN1 pN2 pN3 pN4 pN5 pN6 pN7 (Nat.div (Nat.sub k 64) 64)) (nth8 (fun _ _=>.no) pM0 pM1 pM2 pM3 pM4 pM5 pM6 pM7 (Nat.mod (Nat.div (Nat.sub k 64) 8) 8)) (nth8 (fun _ _=>.no) pL0 pL1 pL2 pL3 pL4 pL5 pL6 pL7 (Nat.mod (Nat.sub k 64) 8)))) (.mk (fun _ _=>.no)))
noncomputable def setK (k:Nat):Sw:=bf (Nat.ble k 63) (nth8 (.mk (fun _ _ _=>.no)) (nth8 (.mk (fun _ _ _=>.no)) (.mk ss00) (.mk ss01) (.mk ss02) (.mk ss03) (.mk ss04) (.mk ss05) (.mk ss06) (.mk ss07) (Nat.mod k 8)) (nth8 (.mk (fun _ _ _=>.no)) (.mk ss10) (.mk ss11) (.mk ss12) (.mk ss13) (.mk ss14) (.mk ss15) (.mk ss16) (.mk ss17) (Nat.mod k 8)) (nth8 (.mk (fun _ _ _=>.no)) (.mk ss20) (.mk ss21) (.mk ss22) (.mk ss23) (.mk ss24) (.mk ss25) (.mk ss26) (.mk ss27) (Nat.mod k 8)) (nth8 (.mk (fun _ _ _=>.no)) (.mk ss30) (.mk ss31) (.mk ss32) (.mk ss33) (.mk ss34) (.mk ss35) (.mk ss36) (.mk ss37) (Nat.mod k 8)) (nth8 (.mk (fun _ _ _=>.no)) (.mk ss40) (.mk ss41) (.mk ss42) (.mk ss43) (.mk ss44) (.mk ss45) (.mk ss46) (.mk ss47) (Nat.mod k 8)) (nth8 (.mk (fun _ _ _=>.no)) (.mk ss50) (.mk ss51) (.mk ss52) (.mk ss53) (.mk ss54) (.mk ss55) (.mk ss56) (.mk ss57) (Nat.mod k 8)) (nth8 (.mk (fun _ _ _=>.no)) (.mk ss60) (.mk ss61) (.mk ss62) (.mk ss63) (.mk ss64) (.mk ss65) (.mk ss66) (.mk ss67) (Nat.mod k 8)) (nth8 (.mk (fun _ _ _=>.no)) (.mk ss70) (.mk ss71) (.mk ss72) (.mk ss73) (.mk ss74) (.mk ss75) (.mk ss76) (.mk ss77) (Nat.mod k 8)) (Nat.div k 8)) (bf (Nat.ble k 575) (.mk (sBig (nth8 (fun _ _ _=>.no) uN0 uN1 uN2 uN3 uN4 uN5 uN6 uN7 (Nat.div (Nat.sub k 64) 64)) (nth8 (fun _ _ _=>.no) uM0 uM1 uM2 uM3 uM4 uM5 uM6 uM7 (Nat.mod (Nat.div (Nat.sub k 64) 8) 8)) (nth8 (fun _ _ _=>.no) uL0 uL1 uL2 uL3 uL4 uL5 uL6 uL7 (Nat.mod (Nat.sub k 64) 8)))) (.mk (fun _ _ _=>.no)))
end
end Go.Rn
namespace Go.Rn
attribute [local irreducible] HT10 CT9
abbrev KV' (H:Type):=RV→H→Nat→A
abbrev Cl3' (H:Type):=Nat→RV→H→Nat→KV' H→A
abbrev Kt' (F H:Type):=Cl3' H→F→H→Nat→A
abbrev P3' (F:Type):=F→(RV→A)→A
abbrev E3' (F H:Type):=Cl3' H→F→H→Nat→KV' H→A
abbrev Kd' (F H:Type):=Nat→List CK→List H→Kt' F H
inductive Ow' (F H:Type) where | p (f:P3' F) | e (f:E3' F H) | no
inductive Nw' (F:Type) where | mk (f:F→Nat→(Nat→A)→A)
inductive Fw' (F:Type) where | mk (f:F→RV→(RV→A)→A)
inductive Lw' (F H:Type) where | mk (f:Kt' F H→Kt' F H) | no
inductive Cw' (F H:Type) where | mk (f:Kt' F H→(Nat→Kt' F H)→Kt' F H→Kt' F H) | no
inductive Zw' (F:Type) where | mk (f:RV→F→(F→A)→A)
inductive Rw' (F H:Type) where | mk (f:F→H→(RV→A)→A)
inductive Bw' (H:Type) where | mk (f:Cl3' H→RV→H→Nat→KV' H→A) | no
inductive Dv' (F H:Type) where | mk (f:Kd' F H→Kd' F H) | no
abbrev KV:=KV' H3
abbrev Cl3:=Cl3' H3
abbrev Kt:=Kt' F3 H3
abbrev P3:=P3' F3
abbrev E3:=E3' F3 H3
abbrev Kd:=Kd' F3 H3
abbrev Ow:=Ow' F3 H3
abbrev Nw:=Nw' F3
abbrev Fw:=Fw' F3
abbrev Lw:=Lw' F3 H3
abbrev Cw:=Cw' F3 H3
abbrev Zw:=Zw' F3
abbrev Rw:=Rw' F3 H3
abbrev Bw:=Bw' H3
abbrev Dv:=Dv' F3 H3
section
noncomputable def ropW:RO→Gw:=@RO.rec (fun _=>Gw) (fun p=>getK (Nat.sub (Pa.val p) 1)) (fun v=>.mk (fun _ k=>k v))
noncomputable def g1 (x:RO) (f:G3→Ow):Ow:=@Gw.rec (fun _=>Ow) f (ropW x)
noncomputable def consW (g r:G3):G3:=fun t k=>g t fun v=>cU v (r t fun c=>k (.cons v c))
noncomputable def evw (l:List RO):Gw:=@List.rec RO (fun _=>Gw) (.mk (fun _ k=>k .nil)) (fun x _ ih=>@Gw.rec (fun _=>Gw) (fun r=>@Gw.rec (fun _=>Gw) (fun g=>.mk (consW g r)) (ropW x)) ih) l
noncomputable def optN3 (g:G3):F3→Nat→(Nat→A)→A:=fun t _ k=>g t fun v=>cK v k
noncomputable def optW:Option RO→Nw:=@Option.rec RO (fun _=>Nw) (.mk (fun _ d k=>k d)) (fun x=>@Gw.rec (fun _=>Nw) (fun g=>.mk (optN3 g)) (ropW x))
noncomputable def n1 (x:Option RO) (f:(F3→Nat→(Nat→A)→A)→Ow):Ow:=@Nw'.rec F3 (fun _=>Ow) f (optW x)
/-! chains -/
noncomputable def chG:Nat→RV→(RV→A)→A:=@Nat.rec (fun _=>RV→(RV→A)→A) (fun c k=>cN c fun x _=>cU x (k x)) (fun _ ih c k=>cN c fun _ r=>ih r k)
noncomputable def skip3:Nat→RV→(RV→A)→A:=@Nat.rec (fun _=>RV→(RV→A)→A) (fun c k=>k c) (fun _ ih c k=>cN c fun _ r=>ih r k)
noncomputable def take3:Nat→RV→(RV→A)→A:=@Nat.rec (fun _=>RV→(RV→A)→A) (fun _ k=>k .nil) (fun _ ih c k=>cN c fun x r=>cU x (ih r fun q=>k (.cons x q)))
noncomputable def part3 (g:Bool) (c:RV) (off m:Nat) (k:RV→A):A:=ifA g (skip3 off c fun r=>take3 m r fun r=>k (.agg r)) (chG off c k)
noncomputable def lay3:RV→C3→Nat→(C3→Nat→A)→A:=@RV.rec (fun _=>C3→Nat→(C3→Nat→A)→A) (fun _ _ _=>.no) (fun _ _ _=>.no) (fun _ _ _ _=>.no) (fun _ _ _ _ _=>.no) (fun _ _ _ _ _=>.no) (fun _ _ _ _=>.no) (fun _ _ _=>.no) (fun _ _ _ _ _=>.no) (fun _ _ _=>.no) (fun _ _ _ _ _ _ _=>.no) (fun _ _ _ _ _ _ _=>.no) (fun _ _ _ _ _=>.no) (fun _ _ _=>.no) (fun _ _ _ _ _ _=>.no) (fun t i k=>k t i)
 (fun x _ _ ih t i k=>cupd t i (fun _ c=>c x) fun t=>ih t (Nat.succ i) k) (fun _ _ _ _ _=>.no) (fun _ _ _ _ _=>.no) (fun _ _ _ _=>.no)
noncomputable def over3:RV→C3→Nat→(C3→A)→A:=@RV.rec (fun _=>C3→Nat→(C3→A)→A) (fun _ _ _=>.no) (fun _ _ _=>.no) (fun _ _ _ _=>.no) (fun _ _ _ _ _=>.no) (fun _ _ _ _ _=>.no) (fun _ _ _ _=>.no) (fun _ _ _=>.no) (fun _ _ _ _ _=>.no) (fun _ _ _=>.no) (fun _ _ _ _ _ _ _=>.no) (fun _ _ _ _ _ _ _=>.no) (fun _ _ _ _ _=>.no) (fun _ _ _=>.no) (fun _ _ _ _ _ _=>.no) (fun t _ k=>k t)
 (fun x _ _ ih t i k=>cupd t i (fun y c=>cU y (c x)) fun t=>ih t (Nat.succ i) k) (fun _ _ _ _ _=>.no) (fun _ _ _ _ _=>.no) (fun _ _ _ _=>.no)
noncomputable def rd3:Nat→C3→Nat→(RV→A)→A:=@Nat.rec (fun _=>C3→Nat→(RV→A)→A) (fun _ _ k=>k .nil) (fun _ ih c o k=>cget c o fun v=>cU v (ih c (Nat.succ o) fun r=>k (.cons v r)))
noncomputable def rdA (g:Bool) (m:Nat) (c:C3) (o:Nat) (k:RV→A):A:=ifA g (rd3 m c o fun r=>k (.agg r)) (cget c o fun v=>cU v (k v))
noncomputable def frcL:List Nat→(List Nat→A)→A:=@List.rec Nat (fun _=>(List Nat→A)→A) (fun k=>k []) (fun x _ ih k=>frc x fun x=>ih fun r=>k (x::r))
noncomputable def nthN:List Nat→Nat→(Nat→A)→A:=@List.rec Nat (fun _=>Nat→(Nat→A)→A) (fun _ _=>.no) (fun x _ ih i k=>@Nat.rec (fun _=>A) (k x) (fun j _=>ih j k) i)
noncomputable def cLen (v:RV) (k:Nat→A):A:=cL v (k 0) (fun _ _ l _=>k l) (fun _ _ l _=>k l) (fun _ _=>k 0)
/-! memory -/
noncomputable def noM:C3→A:=fun _=>.no
noncomputable def newB (h:H3) (n:Nat) (c:C3) (z:Nat) (v:RV) (k:KV):A:=ifA (Nat.beq z MAPZ) .no (hupd h n (fun _ f=>f (bkB c z)) fun h=>frc (Nat.succ n) fun m=>k v h m)
noncomputable def newC (h:H3) (n:Nat) (c:RV) (v:RV) (k:KV):A:=lay3 c ce3 0 fun cs z=>frc z fun z=>newB h n cs z v k
noncomputable def st1 (fl:Nat) (h:H3) (b o:Nat) (v:RV) (k:H3→A):A:=ifA (Nat.ble fl b) (hupd h b (fun bk f=>bk .no noM fun c z=>cupd c o (fun y g=>cU y (g v)) fun c=>f (bkB c z)) k) .no
noncomputable def stB (fl:Nat) (h:H3) (b o:Nat) (v:RV) (k:H3→A):A:=ifA (Nat.ble fl b) (hupd h b (fun bk f=>bk .no noM fun c z=>over3 v c o fun c=>f (bkB c z)) k) .no
noncomputable def row3 (h:H3) (es b o m:Nat) (k:RV→A):A:=hget h b fun bk=>bk .no noM fun c _=>frc (Nat.mul m es) fun q=>rd3 q c o k
noncomputable def slC (h:H3) (es:Nat) (v:RV) (m:Nat) (k:RV→A):A:=cL v .no (fun b o l _=>ifA (Nat.ble m l) (row3 h es b o m k) .no) (fun b o l _=>ifA (Nat.ble m l) (row3 h es b o m k) .no) (fun _ _=>.no)
noncomputable def growC3 (h:H3) (n es b o l:Nat) (y:RV) (m:Nat) (kill:H3) (k:KV):A:=row3 h es b o l fun r=>cUv (chApp r y) fun r=>lay3 r ce3 0 fun cs _=>frc (Nat.add l m) fun q=>frc (Nat.mul q es) fun z=>newB kill n cs z (.su n 0 q es) k
noncomputable def killB (h:H3) (b:Nat) (k:H3→A):A:=hupd h b (fun _ f=>f noB) k
noncomputable def growU3 (h:H3) (n es b o l:Nat) (y:RV) (m:Nat) (k:KV):A:=hget h b fun bk=>bk .no noM fun c z=>killB h b fun kill=>
 ifA (bf (Nat.beq o 0) (Nat.beq z (Nat.mul l es)) false) (lay3 y c z fun cs _=>frc (Nat.add l m) fun q=>frc (Nat.mul q es) fun z=>newB kill n cs z (.su n 0 q es) k) (growC3 h n es b o l y m kill k)
noncomputable def insY3 (es b o l vb vo m i:Nat) (h:H3) (n:Nat) (k:KV):A:=row3 h es vb vo m fun v=>frc (Nat.add o (Nat.mul i es)) fun q=>frc (Nat.sub l i) fun r=>row3 h es b q r fun w=>cUv (chApp v w) fun y=>killB h b fun kill=>frc (Nat.add r m) fun q=>growC3 h n es b o i y q kill k
noncomputable def ins3 (es:Nat) (a:RV) (fl:Nat) (h:H3) (n:Nat) (k:KV):A:=cN a fun x r=>cN r fun i r=>cN r fun y r=>cNn r
 (cL x .no (fun _ _ _ _=>.no) (fun b o l e=>cM i (fun i=>cL y .no (fun vb vo m _=>ifA (insOk fl es b l e vb m i) (insY3 es b o l vb vo m i h n k) .no) (fun _ _ _ _=>.no) (fun _ _=>.no)) (fun _=>.no) .no) (fun _ _=>.no)) fun _ _=>.no
noncomputable def newY (h:H3) (n es:Nat) (y:RV) (m:Nat) (k:KV):A:=lay3 y ce3 0 fun cs _=>frc (Nat.mul m es) fun z=>newB h n cs z (.su n 0 m es) k
noncomputable def apC (fl es:Nat) (x:RV) (m:Nat) (y:RV) (h:H3) (n:Nat) (k:KV):A:=
 cL x (newY h n es y m k)
  (fun b o l c=>ifA (Nat.ble (Nat.add l m) c) (frc (Nat.add o (Nat.mul l es)) fun q=>stB fl h b q y fun h=>frc (Nat.add l m) fun lm=>k (.sl b o lm c) h n) (ifA (Nat.beq l 0) (newY h n es y m k) (growC3 h n es b o l y m h k)))
  (fun b o l e=>ifA (Nat.beq (Nat.mod e 1048576) es) (frc (Nat.div e 1048576) fun sp=>ifA (Nat.ble m sp) (frc (Nat.add o (Nat.mul l es)) fun q=>stB fl h b q y fun h=>frc (Nat.add l m) fun lm=>frc (Nat.add es (Nat.mul 1048576 (Nat.sub sp m))) fun e=>k (.su b o lm e) h n)
   (ifA (Nat.ble fl b) (growU3 h n es b o l y m k) .no)) .no)
  (fun b e=>ifA (Nat.beq e es) (ifA (Nat.ble fl b) (hget h b fun bk=>bk .no noM fun _ _=>killB h b fun kill=>newY kill n es y m k) .no) .no)
/-! pure operations -/
noncomputable def pMv (g:G3):P3:=fun t k=>g t fun v=>cU v (k v)
noncomputable def pPick (c a b:G3):P3:=fun t k=>c t fun c=>cB c fun x=>ifA x (a t fun v=>cU v (k v)) (b t fun v=>cU v (k v))
noncomputable def pNc (g:G3):P3:=fun t k=>g t fun v=>cNc v (k v)
noncomputable def pBin (f:RV→RV→(RV→A)→A) (x y:G3):P3:=fun t k=>x t fun x=>y t fun y=>f x y k
noncomputable def cM2 (x y:RV) (fi fu:Nat→Nat→A) (s:A):A:=cM x (fun a=>cM y (fun b=>fi a b) (fun _=>s) s) (fun a=>cM y (fun _=>s) (fun b=>fu a b) s) s
noncomputable def mk64 (k:RV→A) (r:Nat):A:=k (.i .i64 (.ofNat r))
noncomputable def mkU (k:RV→A) (r:Nat):A:=k (.i .u64 (.ofNat r))
noncomputable def chkI (r:Nat) (k:RV→A) (s:A):A:=ifA (Nat.ble r 9223372036854775807) (frc r (mk64 k)) s
noncomputable def chkU (r:Nat) (k:RV→A) (s:A):A:=ifA (Nat.ble r 18446744073709551615) (frc r (mkU k)) s
noncomputable def slow (ys:Ys) (op:BinOp) (x y:RV) (k:RV→A):A:=cUv (binV ys op x y) k
noncomputable def bAdd (ys:Ys) (x y:RV) (k:RV→A):A:=cM2 x y (fun a b=>chkI (Nat.add a b) k (slow ys .add x y k)) (fun a b=>frc (Nat.mod (Nat.add a b) 18446744073709551616) (mkU k)) (slow ys .add x y k)
noncomputable def bMul (ys:Ys) (x y:RV) (k:RV→A):A:=cM2 x y (fun a b=>chkI (Nat.mul a b) k (slow ys .mul x y k)) (fun a b=>frc (Nat.mod (Nat.mul a b) 18446744073709551616) (mkU k)) (slow ys .mul x y k)
noncomputable def bSub (ys:Ys) (x y:RV) (k:RV→A):A:=cM2 x y (fun a b=>ifA (Nat.ble b a) (chkI (Nat.sub a b) k (slow ys .sub x y k)) (slow ys .sub x y k)) (fun a b=>ifA (Nat.ble b a) (chkU (Nat.sub a b) k (slow ys .sub x y k)) (slow ys .sub x y k)) (slow ys .sub x y k)
noncomputable def bBit (ys:Ys) (op:BinOp) (f:Nat→Nat→Nat) (x y:RV) (k:RV→A):A:=cM2 x y (fun a b=>chkI (f a b) k (slow ys op x y k)) (fun a b=>chkU (f a b) k (slow ys op x y k)) (slow ys op x y k)
noncomputable def bCmp (ys:Ys) (op:BinOp) (f:Nat→Nat→Bool) (x y:RV) (k:RV→A):A:=cM2 x y (fun a b=>mkBk (f a b) k) (fun a b=>mkBk (f a b) k) (slow ys op x y k)
noncomputable def bQuo (ys:Ys) (x y:RV) (k:RV→A):A:=cM2 x y (fun a b=>ifA (Nat.beq b 0) .no (chkI (Nat.div a b) k (slow ys .quo x y k))) (fun _ _=>slow ys .quo x y k) (slow ys .quo x y k)
noncomputable def bRem (ys:Ys) (x y:RV) (k:RV→A):A:=cM2 x y (fun a b=>ifA (Nat.beq b 0) .no (frc (Nat.mod a b) (mk64 k))) (fun _ _=>slow ys .rem x y k) (slow ys .rem x y k)
noncomputable def bShl (ys:Ys) (x y:RV) (k:RV→A):A:=cM x (fun a=>cM y (fun b=>ifA (Nat.ble b 64) (chkI (Nat.mul a (Nat.pow 2 b)) k (slow ys .shl x y k)) .no) (fun b=>ifA (Nat.ble b 64) (chkI (Nat.mul a (Nat.pow 2 b)) k (slow ys .shl x y k)) .no) (slow ys .shl x y k))
 (fun a=>cM y (fun b=>ifA (Nat.ble b 64) (frc (Nat.mod (Nat.mul a (Nat.pow 2 b)) 18446744073709551616) (mkU k)) .no) (fun b=>ifA (Nat.ble b 64) (frc (Nat.mod (Nat.mul a (Nat.pow 2 b)) 18446744073709551616) (mkU k)) .no) (slow ys .shl x y k)) (slow ys .shl x y k)
noncomputable def bShr (ys:Ys) (x y:RV) (k:RV→A):A:=cM x (fun a=>cM y (fun b=>ifA (Nat.ble b 64) (frc (Nat.div a (Nat.pow 2 b)) (mk64 k)) .no) (fun b=>ifA (Nat.ble b 64) (frc (Nat.div a (Nat.pow 2 b)) (mk64 k)) .no) (slow ys .shr x y k))
 (fun a=>cM y (fun b=>ifA (Nat.ble b 64) (frc (Nat.div a (Nat.pow 2 b)) (mkU k)) .no) (fun b=>ifA (Nat.ble b 64) (frc (Nat.div a (Nat.pow 2 b)) (mkU k)) .no) (slow ys .shr x y k)) (slow ys .shr x y k)
noncomputable def neqN (a b:Nat):Bool:=notB (Nat.beq a b)
noncomputable def lssN (a b:Nat):Bool:=Nat.ble (Nat.succ a) b
noncomputable def gtrN (a b:Nat):Bool:=Nat.ble (Nat.succ b) a
noncomputable def geqN (a b:Nat):Bool:=Nat.ble b a
noncomputable def binW (ys:Ys):BinOp→RV→RV→(RV→A)→A:=@BinOp.rec (fun _=>RV→RV→(RV→A)→A) (bAdd ys) (bSub ys) (bMul ys) (bQuo ys) (bRem ys) (bBit ys .and Nat.land) (bBit ys .or Nat.lor) (bBit ys .xor Nat.xor) (bShl ys) (bShr ys) (slow ys .andNot)
 (bCmp ys .eql Nat.beq) (bCmp ys .neq neqN) (bCmp ys .lss lssN) (bCmp ys .leq Nat.ble) (bCmp ys .gtr gtrN) (bCmp ys .geq geqN)
noncomputable def pBq (neg:Bool) (x y:G3):P3:=fun t k=>x t fun x=>cB x fun a=>y t fun y=>cB y fun b=>mkBk (eqB neg (notB (eqB a b))) k
noncomputable def pNq (kd:Nat) (neg:Bool) (x y:G3):P3:=fun t k=>x t fun x=>cNil x fun ka a=>y t fun y=>cNil y fun kb b=>ifA (Nat.beq ka kd) (ifA (Nat.beq kb kd) (ifA b (mkBk (eqB neg (notB a)) k) (ifA a (mkBk neg k) .no)) .no) .no
noncomputable def pSe (ys:Ys) (ks:List Nat) (neg:Bool) (x y:G3):P3:=fun t k=>ifA (isIf ks) (x t fun x=>y t fun y=>cB (eqIf (tlN ks) x y) fun r=>mkBk (eqB neg (notB r)) k) (x t fun x=>cA x fun c=>y t fun y=>cA y fun d=>cB (eqCh ys ks c d) fun r=>mkBk (eqB neg (notB r)) k)
noncomputable def pNg (x:G3):P3:=fun t k=>x t fun x=>cY x (fun j e=>k (.y j (.sub j (.c 0) e))) (fun j z=>cUv (arI .sub j 0 z) k)
noncomputable def pNt (x:G3):P3:=fun t k=>x t fun x=>cB x fun a=>mkBk (notB a) k
noncomputable def slowC (j:IntKind) (x:RV) (k:RV→A):A:=cI x fun _ z=>cUv (wrapI j z) k
noncomputable def cvF:IntKind→RV→(RV→A)→A:=@IntKind.rec (fun _=>RV→(RV→A)→A) (slowC .i8) (slowC .i16) (slowC .i32) (fun x k=>cM x (fun m=>chkI m k (slowC .i64 x k)) (fun m=>chkI m k (slowC .i64 x k)) (slowC .i64 x k)) (slowC .u8) (slowC .u16) (slowC .u32) (fun x k=>cM x (fun m=>chkU m k (slowC .u64 x k)) (fun m=>chkU m k (slowC .u64 x k)) (slowC .u64 x k))
noncomputable def pCv (f:RV→(RV→A)→A) (x:G3):P3:=fun t k=>x t fun x=>f x k
noncomputable def pMf (f:Nat) (c:G3):P3:=fun t k=>c t fun c=>k (.fn f c)
noncomputable def frSu (v:RV) (k:RV→A):A:=gL (k v) v (k .ns) (fun b o l c=>k (.sl b o l c)) (fun b o l e=>frc o fun o=>frc l fun l=>frc e fun e=>k (.su b o l e)) (fun b e=>k (.sx b e))
noncomputable def pSc (es:Nat) (x:G3) (lo hi:F3→Nat→(Nat→A)→A):P3:=fun t k=>x t fun v=>cLen v fun l=>lo t 0 fun a=>hi t l fun b=>cUv (slV es v a b none) fun v=>frSu v k
noncomputable def pSc3 (es:Nat) (x:G3) (lo hi:F3→Nat→(Nat→A)→A) (mx:F3→Nat→(Nat→A)→A):P3:=fun t k=>x t fun v=>cLen v fun l=>lo t 0 fun a=>hi t l fun b=>mx t 0 fun m=>cUv (slV es v a b (some m)) k
noncomputable def pSs (x:G3) (lo hi:F3→Nat→(Nat→A)→A):P3:=fun t k=>x t fun v=>cS v fun l=>frc l.length fun n=>lo t 0 fun a=>hi t n fun b=>ifA (Nat.ble a b) (ifA (Nat.ble b n) (frcL ((l.take b).drop a) fun l=>k (.s l)) .no) .no
noncomputable def pSa (m es:Nat) (x:G3) (lo hi:F3→Nat→(Nat→A)→A):P3:=fun t k=>x t fun v=>cP v fun b o=>lo t 0 fun a=>hi t m fun e=>cUv (slK es b o a e m) k
noncomputable def pFa (off:Nat) (x:G3):P3:=fun t k=>x t fun v=>cP v fun b o=>frc (Nat.add o off) fun o=>k (.p b o)
noncomputable def pFd (g:Bool) (off m:Nat) (x:G3):P3:=fun t k=>x t fun v=>cA v fun c=>part3 g c off m k
noncomputable def iaK (es b o l a:Nat) (k:RV→A):A:=ifA (Nat.ble (Nat.succ a) l) (frc (Nat.add o (Nat.mul a es)) fun o=>k (.p b o)) .no
noncomputable def pIa (es:Nat) (x i:G3):P3:=fun t k=>x t fun v=>i t fun j=>cK j fun a=>cL v .no (fun b o l _=>iaK es b o l a k) (fun b o l _=>iaK es b o l a k) (fun _ _=>.no)
noncomputable def pIp (m es:Nat) (x i:G3):P3:=fun t k=>x t fun v=>i t fun j=>cK j fun a=>cP v fun b o=>iaK es b o m a k
noncomputable def pIx (g:Bool) (m es:Nat) (x i:G3):P3:=fun t k=>x t fun v=>i t fun j=>cK j fun a=>cA v fun c=>ifA (Nat.ble (Nat.succ a) m) (frc (Nat.mul a es) fun o=>part3 g c o es k) .no
noncomputable def pSx (x i:G3):P3:=fun t k=>x t fun v=>i t fun j=>cK j fun a=>cS v fun l=>nthN l a fun c=>k (.i .u8 (.ofNat c))
noncomputable def pEx (j:Nat) (x:G3):P3:=fun t k=>x t fun v=>cT v fun c=>chG j c k
/-! interfaces -/
noncomputable def cIf (v:RV) (z:A) (k:Nat→RV→A):A:=cF v fun f c=>ifA (Nat.ble 33554432 f) (cNn c z fun y r=>cNn y (cN r fun x q=>cNn q (k f x) fun _ _=>.no) fun _ _=>.no) .no
noncomputable def taN (z:RV) (two:Bool) (k:RV→A):A:=ifA two (cUv z fun z=>k (.tup (.cons z (.cons (.b false) .nil)))) .no
noncomputable def taY (two:Bool) (v:RV) (k:RV→A):A:=cUv v fun v=>ifA two (k (.tup (.cons v (.cons (.b true) .nil)))) (k v)
noncomputable def pTa (ty:Nat) (z:RV) (two:Bool) (x:G3):P3:=fun t k=>x t fun v=>cIf v (taN z two k) fun f v=>ifA (Nat.beq f (Nat.add 33554432 ty)) (taY two v k) (taN z two k)
noncomputable def ivR3 (st g:Bool) (off m:Nat) (v:RV) (k:RV→A):A:=ifA st (cA v fun c=>part3 g c off m k) (cUv v k)
noncomputable def ivE3 (f:Nat) (e:IvE) (v:RV) (k:Nat→RV→A) (d:A):A:=@IvE.rec (fun _=>A) (fun ty g st ag off m=>ifA (Nat.beq f (Nat.add 33554432 ty)) (ivR3 st ag off m v fun r=>k g r) d) e
noncomputable def ivL3 (f:Nat) (l:List IvE) (v:RV) (k:Nat→RV→A):A:=@List.rec IvE (fun _=>A) .no (fun e _ d=>ivE3 f e v k d) l
noncomputable def chS3 (l:Option (List Nat)) (k:List Nat→A):A:=@Option.rec (List Nat) (fun _=>A) .no k l
noncomputable def join3 (a:RV) (h:H3) (n:Nat) (k:KV):A:=cN a fun x r=>cN r fun y q=>cNn q (cLen x fun m=>ifA (bf (Nat.ble 2 m) (Nat.ble m 65536) false) (cS y fun sep=>slC h 1 x m fun c=>chS3 (joinL sep c) fun l=>ifA (Nat.ble l.length 1048576) (frcL l fun l=>k (.s l) h n) .no) .no) fun _ _=>.no
noncomputable def isA3 (t:Nat) (v:RV) (k:Nat→Nat→A):A:=cIf v .no fun f x=>ifA (Nat.beq f (Nat.add 33554432 t)) (cP x k) .no
noncomputable def is3 (ch a:RV) (h:H3) (n:Nat) (k:KV):A:=cP ch fun tr tp=>cN a fun x r=>cN r fun y q=>cNn q
 (isA3 tr x fun b o=>isA3 tp y fun b2 o2=>hget h b fun bk=>bk .no noM fun c _=>frc (Nat.succ o) fun o=>cget c o fun v=>isA3 tp v fun b1 o1=>hget h b1 fun bk=>bk .no noM fun _ _=>hget h b2 fun bk=>bk .no noM fun _ _=>ifA (Nat.ble 97 b1) (ifA (Nat.ble 97 b2) (ifA (Nat.beq b1 b2) .no (ifA (Nat.beq o1 o2) (k (.b false) h n) .no)) .no) .no)
 fun _ _=>.no
noncomputable def row3X (ch:RV) (h:H3) (n:Nat) (k:KV):A:=cON (chLen ch) fun z=>newC h n ch (.sl n 0 z z) k
noncomputable def lst13 (x:RV) (h:H3) (k:RV→A):A:=cLen x fun m=>ifA (Nat.beq m 1) (slC h 1 x 1 fun c=>cN c fun y r=>cNn r (k y) fun _ _=>.no) .no
noncomputable def dig3 (v:RV) (h:H3) (n:Nat) (k:KV):A:=cI v fun j z=>ifA (is64 j) (ifA (nonI z) (ifA (Nat.ble (natI z) 9) (frcL [Nat.add 48 (natI z),10] fun l=>k (.s l) h n) .no) .no) .no
noncomputable def lst3 (a:RV) (h:H3) (n:Nat) (k:KV):A:=cN a fun x r=>cN r fun e q=>cNn q (cI e fun j z=>ifA (is64 j) (ifA (eqI z 0) (lst13 x h fun y=>lst13 y h fun v=>dig3 v h n k) .no) .no) fun _ _=>.no
noncomputable def told3 (_ys:Ys) (es:Nat) (ch:RV) (a:RV) (fl:Nat) (h:H3) (n:Nat) (k:KV):A:=ifA (Nat.ble 16777216 es) (ifA (Nat.ble 33554432 es) (ifA (Nat.ble 50331648 es) (ifA (Nat.ble 67108864 es) (lst3 a h n k) (row3X ch h n k)) (is3 ch a h n k)) (join3 a h n k)) (ins3 es a fl h n k)
noncomputable def wS3 (c:C3) (k:List Nat→A):A:=cget c 0 fun v=>cS v k
noncomputable def cW (h:H3) (v:RV) (d:A) (k:Nat→List Nat→A):A:=cL v d (fun _ _ _ _=>d) (fun b o l e=>ifA (Nat.beq o 0) (ifA (Nat.beq e 1) (hget h b fun bk=>bk .no (fun c=>wS3 c fun s=>ifA (Nat.beq s.length l) (k b s) .no) (fun _ _=>d)) d) d) (fun _ _=>d)
noncomputable def wide3 (h:H3) (n:Nat) (l:List Nat) (k:KV):A:=frcL l fun l=>cupd ce3 0 (fun _ c=>c (.s l)) fun cs=>hupd h n (fun _ f=>f (mpB cs)) fun h=>frc l.length fun q=>frc (Nat.succ n) fun m=>k (.su n 0 q 1) h m
noncomputable def rdS3 (v:RV) (h:H3) (n:Nat) (k:KV):A:=cLen v fun m=>ifA (Nat.ble m 1048576) (ifA (Nat.beq m 0) (k (.s []) h n) (slC h 1 v m fun c=>chS3 (chS c) fun l=>frcL l fun l=>k (.s l) h n)) .no
noncomputable def eB2 (st:Bool) (x:G3):E3:=fun _ t h n k=>x t fun v=>ifA st (cS v fun l=>wide3 h n l k) (cW h v (rdS3 v h n k) fun _ l=>k (.s l) h n)
noncomputable def eIv (l:List IvE) (x c:G3):E3:=fun cl t h n k=>x t fun v=>cIf v .no fun f v=>ivL3 f l v fun g r=>c t fun a=>cl g (.cons r a) h n k
noncomputable def pLnS (x:G3):P3:=fun t k=>x t fun v=>cS v fun l=>frc l.length (mk64 k)
noncomputable def pLn (x:G3):P3:=fun t k=>x t fun v=>cLen v (mk64 k)
noncomputable def pCp (x:G3):P3:=fun t k=>x t fun v=>cL v (mk64 k 0) (fun _ _ _ c=>mk64 k c) (fun _ _ _ _=>.no) (fun _ _=>.no)
noncomputable def slowM (mx:Bool) (x y:RV) (k:RV→A):A:=cI x fun j a=>cI y fun i b=>ifA (eqK j i) (cUv (mkI j (bf (bf mx (ltI a b) (ltI b a)) b a)) k) .no
noncomputable def pMm (mx:Bool) (x y:G3):P3:=fun t k=>x t fun x=>y t fun y=>slowM mx x y k
/-! fields laid over a constant -/
noncomputable def pat3:Nat→RV→RV→(RV→A)→A:=@Nat.rec (fun _=>RV→RV→(RV→A)→A) (fun z p k=>cUv (patch z p 0) k) (fun _ ih z p k=>cN z fun x r=>cU x (ih r p fun q=>k (.cons x q)))
noncomputable def fil1 (off m:Nat) (g:G3) (r:F3→RV→(RV→A)→A):F3→RV→(RV→A)→A:=fun t z k=>g t fun v=>cC v (fun c=>cON (chLen c) fun q=>ifA (Nat.beq q m) (pat3 off z c fun z=>r t z k) .no) (ifA (Nat.beq 1 m) (pat3 off z (.cons v .nil) fun z=>r t z k) .no)
noncomputable def filw (l:List (Nat × Nat × RO)):Fw:=@List.rec (Nat × Nat × RO) (fun _=>Fw) (.mk (fun _ z k=>k z)) (fun x _ ih=>@Fw'.rec F3 (fun _=>Fw) (fun r=>@Gw.rec (fun _=>Fw) (fun g=>.mk (fil1 x.1 x.2.1 g r)) (ropW x.2.2)) ih) l
noncomputable def pBd (z:RV) (f:F3→RV→(RV→A)→A):P3:=fun t k=>f t z fun c=>k (.agg c)
/-! operations on memory -/
noncomputable def eBs (z:RV) (len:Nat) (f:F3→RV→(RV→A)→A):E3:=fun _ t h n k=>f t z fun c=>newC h n c (.sl n 0 len len) k
noncomputable def eAl (z:RV):E3:=fun _ _ h n k=>newC h n z (.p n 0) k
noncomputable def eBx (x:G3):E3:=fun _ t h n k=>x t fun v=>cC v (fun c=>newC h n c (.p n 0) k) (newC h n (.cons v .nil) (.p n 0) k)
noncomputable def eLd (g:Bool) (m:Nat) (a:G3):E3:=fun _ t h n k=>a t fun p=>cP p fun b o=>hget h b fun bk=>bk .no noM fun c _=>rdA g m c o fun v=>k v h n
noncomputable def eSt (fl m:Nat) (a v:G3):E3:=fun _ t h n k=>a t fun p=>cP p fun b o=>v t fun v=>cC v (fun c=>cON (chLen c) fun q=>ifA (Nat.beq q m) (stB fl h b o c fun h=>k .ud h n) .no) (ifA (Nat.beq 1 m) (st1 fl h b o v fun h=>k .ud h n) .no)
noncomputable def eMs (z:RV) (l c:G3):E3:=fun _ t h n k=>l t fun l=>cM l (fun a=>c t fun c=>cM c (fun b=>ifA (Nat.ble a b) (ifA (Nat.ble b 65536) (cUv (rep z b) fun r=>newC h n r (.sl n 0 a b) k) .no) .no) (fun _=>.no) .no) (fun _=>.no) .no
noncomputable def eCl (f:Nat) (c:G3):E3:=fun cl t h n k=>c t fun c=>cl f c h n k
noncomputable def eCf (x c:G3):E3:=fun cl t h n k=>x t fun v=>cF v fun f q=>c t fun a=>ifA (Nat.ble BND f) (cN q fun y r=>ifA (Nat.ble 33554432 f) (cNn r (frc (Nat.sub f BND) fun f=>cl f (.cons y a) h n k) fun _ _=>.no) (cUv (chApp a r) fun z=>frc (Nat.sub f BND) fun f=>cl f (.cons y z) h n k)) (cUv (chApp a q) fun r=>cl f r h n k)
noncomputable def chB3 (l:List Nat):(RV→A)→A:=@List.rec Nat (fun _=>(RV→A)→A) (fun k=>k .nil) (fun c _ ih k=>ih fun r=>k (.cons (.i .u8 (.ofNat c)) r)) l
noncomputable def cYLen (v:RV) (k:Nat→A):A:=gS (cLen v k) v fun l=>frc l.length k
noncomputable def slCY (h:H3) (es:Nat) (v:RV) (m:Nat) (k:RV→A):A:=gS (slC h es v m k) v fun l=>ifA (Nat.beq es 1) (ifA (Nat.beq m l.length) (chB3 l k) .no) .no
noncomputable def apO (fl es:Nat) (x:G3) (yv:RV) (t:F3) (h:H3) (n:Nat) (k:KV):A:=cYLen yv fun m=>ifA (Nat.beq m 0) (x t fun xv=>cLen xv fun _=>cU xv (k xv h n)) (ifA (Nat.ble m 1048576) (slCY h es yv m fun c=>x t fun xv=>cLen xv fun l=>ifA (Nat.ble l 1048576) (apC fl es xv m c h n k) .no) .no)
noncomputable def eAp (fl es:Nat) (x y:G3):E3:=fun _ t h n k=>y t fun yv=>gS (apO fl es x yv t h n k) yv fun r=>x t fun xv=>cW h xv (apO fl es x yv t h n k) fun b l=>ifA (Nat.beq es 1) (ifA (Nat.ble fl b) (ifA (Nat.ble (Nat.add l.length r.length) 1048576) (killB h b fun h=>wide3 h n (l ++ r) k) .no) .no) .no
noncomputable def eAz (fl es:Nat) (z:RV) (x y:G3):E3:=fun _ t h n k=>y t fun yv=>cM yv (fun a=>ifA (Nat.ble a 65536) (x t fun xv=>cLen xv fun l=>ifA (Nat.beq a 0) (cU xv (k xv h n)) (ifA (Nat.ble l 1048576) (cUv (rep z a) fun c=>cON (chLen c) fun q=>ifA (Nat.beq q (Nat.mul a es)) (apC fl es xv a c h n k) .no) .no)) .no) (fun _=>.no) .no
noncomputable def stL (fl:Nat) (x c:RV) (h:H3) (k:H3→A):A:=cL x .no (fun b o _ _=>stB fl h b o c k) (fun b o _ _=>stB fl h b o c k) (fun _ _=>.no)
noncomputable def eCy (fl es:Nat) (x y:G3):E3:=fun _ t h n k=>x t fun xv=>cLen xv fun a=>y t fun yv=>cLen yv fun b=>frc (bf (Nat.ble b a) b a) fun q=>ifA (Nat.beq q 0) (k (.i .i64 (.ofNat 0)) h n) (slC h es yv q fun c=>stL fl xv c h fun h=>k (.i .i64 (.ofNat q)) h n)
noncomputable def eCr (fl:Nat) (z:RV) (x:G3):E3:=fun _ t h n k=>x t fun xv=>cLen xv fun l=>ifA (Nat.beq l 0) (k (.tup .nil) h n) (cUv (rep z l) fun c=>stL fl xv c h fun h=>k (.tup .nil) h n)
noncomputable def g2 (x y:RO) (f:G3→G3→Ow):Ow:=g1 x fun a=>g1 y fun b=>f a b
noncomputable def gl (l:List RO) (f:G3→Ow):Ow:=@Gw.rec (fun _=>Ow) f (evw l)
noncomputable def gfl (l:List (Nat × Nat × RO)) (f:(F3→RV→(RV→A)→A)→Ow):Ow:=@Fw'.rec F3 (fun _=>Ow) f (filw l)
noncomputable def scW (es:Nat) (x:RO) (lo hi mx:Option RO):Ow:=g1 x fun x=>n1 lo fun lo=>n1 hi fun hi=>@Option.rec RO (fun _=>Ow) (.p (pSc es x lo hi)) (fun m=>n1 (some m) fun m=>.p (pSc3 es x lo hi m)) mx
/-! maps -/
noncomputable def eMk:E3:=fun _ _ h n k=>cupd ce3 0 (fun _ c=>c (.i .i64 (.ofNat 0))) fun cs=>hupd h n (fun _ f=>f (mpB cs)) fun h=>frc (Nat.succ n) fun m=>k (.mp n) h m
noncomputable def sz3 (c:C3) (k:Nat→A):A:=cget c 0 fun v=>cM v k (fun _=>.no) .no
noncomputable def fnd3 (ys:Ys) (q:Nat) (c:C3) (key:RV) (y:Nat→A) (n:A) (s:Nat):Nat→A:=@Nat.rec (fun _=>Nat→A) (fun _=>n)
 (fun _ ih i=>frc (Nat.add 1 (Nat.mul 2 i)) fun o=>cget c o fun v=>ifA (Nat.beq (kOz v) q) (ifA (kEz ys key v) (y i) (ifA (kNz ys key v) (frc (Nat.succ i) ih) .no)) .no) s
/-! pointers to blocks that are there -/
noncomputable def al3 (fl:Nat) (h:H3) (v:RV) (y:A):A:=gP y v fun b _=>ifA (Nat.ble fl b) (hget h b fun bk=>bk .no noM fun _ _=>y) .no
noncomputable def allA3 (fl:Nat) (h:H3) (c:C3) (y:A) (s:Nat):A:=@Nat.rec (fun _=>A) y (fun i ih=>frc (Nat.add 1 (Nat.mul 2 i)) fun o=>cget c o fun v=>al3 fl h v ih) s
noncomputable def mo3 (q fl:Nat) (h:H3) (key:RV) (c:C3) (s:Nat) (y:A):A:=ifA (Nat.beq q 12) (al3 fl h key (allA3 fl h c y s)) y
noncomputable def ePq (fl:Nat) (neg:Bool) (x y:G3):E3:=fun _ t h n k=>x t fun x=>y t fun y=>ifA (Nat.beq (kOf x) 12) (ifA (Nat.beq (kOf y) 12) (al3 fl h x (al3 fl h y (mkBk (eqB neg (notB (kEq x y))) fun v=>k v h n))) .no) .no
noncomputable def eMi (ys:Ys) (fl q:Nat) (m:G3) (ky x:G3):E3:=fun _ t h n k=>m t fun mv=>cMp mv fun b=>ky t fun key=>x t fun v=>cU key (cU v (ifA (Nat.beq (kOz key) q) (ifA (Nat.ble fl b)
 (hupd h b (fun bk f=>bk .no (fun c=>sz3 c fun s=>ifA (Nat.ble s 65536) (mo3 q fl h key c s (fnd3 ys q c key
  (fun j=>frc (Nat.add 2 (Nat.mul 2 j)) fun o=>cupd c o (fun _ g=>g v) fun c=>f (mpB c))
  (frc (Nat.add 1 (Nat.mul 2 s)) fun o=>cupd c o (fun _ g=>g key) fun c=>frc (Nat.add 2 (Nat.mul 2 s)) fun o=>cupd c o (fun _ g=>g v) fun c=>frc (Nat.succ s) fun s=>cupd c 0 (fun _ g=>g (.i .i64 (.ofNat s))) fun c=>f (mpB c)) s 0)) .no) (fun _ _=>.no)) fun h=>k .ud h n) .no) .no))
noncomputable def mlK (two:Bool) (v:RV) (b:Bool) (h:H3) (n:Nat) (k:KV):A:=cU v (ifA two (k (.tup (.cons v (.cons (.b b) .nil))) h n) (k v h n))
noncomputable def eMl (ys:Ys) (fl q:Nat) (z:RV) (two:Bool) (m ky:G3):E3:=fun _ t h n k=>m t fun mv=>cMp mv fun b=>ky t fun key=>ifA (Nat.beq (kOz key) q) (hget h b fun bk=>bk .no (fun c=>sz3 c fun s=>mo3 q fl h key c s (fnd3 ys q c key
 (fun j=>frc (Nat.add 2 (Nat.mul 2 j)) fun o=>cget c o fun v=>mlK two v true h n k) (mlK two z false h n k) s 0)) (fun _ _=>.no)) .no
noncomputable def eFg:E3:=fun _ _ h n k=>k .un h n
noncomputable def ow (ys:Ys) (fl:Nat):RP→Ow:=@RP.rec (fun _=>Ow)
 (fun x=>g1 x fun x=>.p (pMv x)) (fun c a b=>g1 c fun c=>g2 a b fun a b=>.p (pPick c a b)) (fun z=>.e (eAl z)) (fun x=>g1 x fun x=>.e (eBx x))
 (fun z ps=>nU .no z fun z=>gfl ps fun f=>.p (pBd z f)) (fun z len ps=>nU .no z fun z=>gfl ps fun f=>.e (eBs z len f))
 (fun g n a=>g1 a fun a=>.e (eLd g n a)) (fun n a v=>g2 a v fun a v=>.e (eSt fl n a v)) (fun x=>g1 x fun x=>.p (pNc x))
 (fun op x y=>g2 x y fun x y=>.p (pBin (binW ys op) x y)) (fun neg x y=>g2 x y fun x y=>.p (pBq neg x y)) (fun kd neg x y=>g2 x y fun x y=>.p (pNq kd neg x y))
 (fun x=>g1 x fun x=>.p (pNg x)) (fun x=>g1 x fun x=>.p (pNt x)) (fun k x=>g1 x fun x=>.p (pCv (cvF k) x)) (fun f cs=>gl cs fun c=>.p (pMf f c))
 (fun z l c=>g2 l c fun l c=>.e (eMs z l c)) scW (fun x lo hi=>g1 x fun x=>n1 lo fun lo=>n1 hi fun hi=>.p (pSs x lo hi)) (fun n es x lo hi=>g1 x fun x=>n1 lo fun lo=>n1 hi fun hi=>.p (pSa n es x lo hi))
 (fun off x=>g1 x fun x=>.p (pFa off x)) (fun g off n x=>g1 x fun x=>.p (pFd g off n x)) (fun es x i=>g2 x i fun x i=>.p (pIa es x i)) (fun n es x i=>g2 x i fun x i=>.p (pIp n es x i)) (fun g n es x i=>g2 x i fun x i=>.p (pIx g n es x i)) (fun x i=>g2 x i fun x i=>.p (pSx x i))
 (fun k x=>g1 x fun x=>.p (pEx k x)) (fun f as=>gl as fun c=>.e (eCl f c)) (fun x as=>g1 x fun x=>gl as fun c=>.e (eCf x c))
 (fun st x=>g1 x fun x=>@Bool.rec (fun _=>Ow) (.p (pLn x)) (.p (pLnS x)) st) (fun x=>g1 x fun x=>.p (pCp x)) (fun es x y=>g2 x y fun x y=>.e (eAp fl es x y)) (fun es x y=>g2 x y fun x y=>.e (eCy fl es x y)) (fun mx x y=>g2 x y fun x y=>.p (pMm mx x y))
 (fun z x=>g1 x fun x=>.e (eCr fl z x)) (fun ks neg x y=>g2 x y fun x y=>.p (pSe ys ks neg x y))
 (.e eMk) (fun q m k x=>g1 m fun m=>g2 k x fun k x=>.e (eMi ys fl q m k x)) (fun q z two m k=>g2 m k fun m k=>.e (eMl ys fl q z two m k)) (.e eFg)
 (fun es z x y=>g2 x y fun x y=>.e (eAz fl es z x y))
 (fun ty z two x=>g1 x fun x=>.p (pTa ty z two x)) (fun l x as=>g1 x fun x=>gl as fun c=>.e (eIv l x c))
 (fun st x=>g1 x fun x=>.e (eB2 st x)) (fun neg x y=>g2 x y fun x y=>.e (ePq fl neg x y))
/-! regions -/
noncomputable def dstW:D→Sw:=@D.rec (fun _=>Sw) (.mk (fun t _ k=>k t)) (fun p=>setK (Nat.sub (Pa.val p) 1))
noncomputable def qP (f:P3) (s:S3):Kt→Kt:=fun nx cl t h n=>f t fun v=>s t v fun t=>nx cl t h n
noncomputable def qE (f:E3) (s:S3):Kt→Kt:=fun nx cl t h n=>f cl t h n fun v h n=>s t v fun t=>nx cl t h n
noncomputable def qS (s:S3):Kt→Kt:=fun nx cl t h n=>s t .ud fun t=>nx cl t h n
noncomputable def gdK (g:G3) (w:Bool) (r s:Kt→Kt):Kt→Kt:=fun nx cl t h n=>g t fun v=>cG v w (r nx cl t h n) (s nx cl t h n)
noncomputable def gdW (g:G) (r s:Kt→Kt):Lw:=@G.rec (fun _=>Lw) (.mk r) (fun p w=>@Gw.rec (fun _=>Lw) (fun g=>.mk (gdK g w r s)) (getK (Nat.sub (Pa.val p) 1))) g
noncomputable def lw1 (ys:Ys) (fl:Nat) (q:RQ):Lw:=@RQ.rec (fun _=>Lw) (fun d g _ o=>@Sw.rec (fun _=>Lw) (fun s=>@Ow'.rec F3 H3 (fun _=>Lw) (fun f=>gdW g (qP f s) (qS s)) (fun f=>gdW g (qE f s) (qS s)) .no (ow ys fl o)) (dstW d)) q
noncomputable def lw (ys:Ys) (fl:Nat) (l:List RQ):Lw:=@List.rec RQ (fun _=>Lw) (.mk (fun nx=>nx)) (fun q _ ih=>@Lw'.rec F3 H3 (fun _=>Lw) (fun a=>@Lw'.rec F3 H3 (fun _=>Lw) (fun b=>.mk (fun nx=>a (b nx))) .no ih) .no (lw1 ys fl q)) l
/-! regions that draw -/
noncomputable def liD (r:Kt→Kt):Kd→Kd:=fun nx n0 cs hs=>r (nx n0 cs hs)
noncomputable def limD (a:G3) (r:Kd→Kd):Kd→Kd:=fun nx n0 cs hs cl t h n=>a t fun p=>cP p fun b _=>ifA (Nat.ble (Nat.succ b) n0) (r nx n0 cs hs cl t h n) .no
noncomputable def ckD (p q:Nat) (g:Bool) (m:Nat) (a:G3) (f:E3) (s:S3):Kd→Kd:=fun nx n0 cs hs cl t h n=>a t fun pv=>cP pv fun b o=>ifA (Nat.ble (Nat.succ b) n0) (f cl t h n fun v h n=>s t v fun t=>nx n0 (.k p q b o g m v::cs) hs cl t h n) .no
noncomputable def efD (f:E3) (s:S3):Kd→Kd:=fun nx n0 cs hs cl t h n=>f cl t h n fun v h n=>s t v fun t=>nx n0 cs (h::hs) cl t h n
noncomputable def efP (f:P3) (s:S3):Kd→Kd:=fun nx n0 cs hs cl t h n=>f t fun v=>s t v fun t=>nx n0 cs (h::hs) cl t h n
noncomputable def skD (s:S3):Kd→Kd:=fun nx n0 cs hs cl t h n=>s t .ud fun t=>nx n0 cs hs cl t h n
noncomputable def skE (s:S3):Kd→Kd:=fun nx n0 cs hs cl t h n=>s t .ud fun t=>nx n0 cs (h::hs) cl t h n
noncomputable def gdD (g:G3) (w:Bool) (r s:Kd→Kd):Kd→Kd:=fun nx n0 cs hs cl t h n=>g t fun v=>cG v w (r nx n0 cs hs cl t h n) (s nx n0 cs hs cl t h n)
noncomputable def gdV (g:G) (r s:Kd→Kd):Dv:=@G.rec (fun _=>Dv) (.mk r) (fun p w=>@Gw.rec (fun _=>Dv) (fun g=>.mk (gdD g w r s)) (getK (Nat.sub (Pa.val p) 1))) g
noncomputable def adW (o:RP) (f:Bool→Nat→G3→Dv):Dv:=match o with | .ld g m a=>@Gw.rec (fun _=>Dv) (f g m) (ropW a) | _=>.no
noncomputable def dw1 (ys:Ys) (fl:Nat) (q:RQ):Dv:=@RQ.rec (fun _=>Dv) (fun d g k o=>@Sw.rec (fun _=>Dv) (fun s=>@K3.rec (fun _=>Dv)
  (@Ow'.rec F3 H3 (fun _=>Dv) (fun f=>gdV g (liD (qP f s)) (skD s)) (fun f=>gdV g (liD (qE f s)) (skD s)) .no (ow ys fl o))
  (@Ow'.rec F3 H3 (fun _=>Dv) (fun _=>.no) (fun f=>adW o fun _ _ a=>gdV g (limD a (liD (qE f s))) (skD s)) .no (ow ys fl o))
  (fun p q=>@Ow'.rec F3 H3 (fun _=>Dv) (fun _=>.no) (fun f=>adW o fun ag m a=>gdV g (ckD p q ag m a f s) (skD s)) .no (ow ys fl o))
  (@Ow'.rec F3 H3 (fun _=>Dv) (fun f=>gdV g (efP f s) (skE s)) (fun f=>gdV g (efD f s) (skE s)) .no (ow ys fl o)) k) (dstW d)) q
noncomputable def dw (ys:Ys) (fl:Nat) (l:List RQ):Dv:=@List.rec RQ (fun _=>Dv) (.mk (fun nx=>nx)) (fun q _ ih=>@Dv'.rec F3 H3 (fun _=>Dv) (fun a=>@Dv'.rec F3 H3 (fun _=>Dv) (fun b=>.mk (fun nx=>a (b nx))) .no ih) .no (dw1 ys fl q)) l
noncomputable def ck1 (c:CK) (h:H3) (j:Nat) (y:A):A:=@CK.rec (fun _=>A) (fun p q b o g m v=>ifA (Nat.ble p j) (ifA (Nat.ble j q) (hget h b fun bk=>bk .no noM fun cs _=>rdA g m cs o fun r=>ifA (eqV r v) y .no) y) y) c
noncomputable def ckA (l:List CK) (h:H3) (j:Nat) (y:A):A:=@List.rec CK (fun _=>A) y (fun c _ ih=>ck1 c h j ih) l
noncomputable def ckO (hs:List H3) (l:List CK) (y:A):A:=@List.rec H3 (fun _=>A) y (fun h r ih=>ckA l h r.length ih) hs
noncomputable def ckT (hs:List H3) (l:List CK) (y:A):A:=@List.rec CK (fun _=>A) y (fun _ _ _=>ckO hs l y) l
noncomputable def endD (nx:Kt):Kd:=fun _ cs hs cl t h n=>ckT hs cs (ifA (Nat.ble n 8388608) (nx cl t h n) .no)
noncomputable def drK (a:Kd→Kd) (nx:Kt):Kt:=fun cl t h n=>a (endD nx) n [] [h] cl t h n
/-! code -/
noncomputable def noK:Kt:=fun _ _ _ _=>.no
noncomputable def cdK (g:G3) (a b:Kt):Kt:=fun cl t h n=>g t fun v=>cB v fun x=>ifA x (a cl t h n) (b cl t h n)
noncomputable def ifK:Bool→Kt→Kt→Kt:=@Bool.rec (fun _=>Kt→Kt→Kt) (fun _ n=>n) (fun y _=>y)
noncomputable def exU (ex:Nat→Kt) (id:Nat) (nx:Kt):Nat→Kt:=fun j=>ifK (Nat.beq j id) nx (ex j)
noncomputable def loopK (a:Kt→(Nat→Kt)→Kt→Kt) (ex:Nat→Kt) (rt:Kt) (m:Nat):Kt:=@Nat.rec (fun _=>Kt) noK (fun _ ih=>a ih ex rt) m
noncomputable def sqK (a b:Kt→(Nat→Kt)→Kt→Kt):Kt→(Nat→Kt)→Kt→Kt:=fun nx ex rt=>a (b nx ex rt) ex rt
/-! a range over a function -/
noncomputable def cSt (v:RV) (nx:A) (ex:Nat→A) (rt:A):A:=@RV.rec (fun _=>A→(Nat→A)→A→A) (fun _ _ _=>.no) (fun _ _ _=>.no) (fun x nx _ _=>ifA x .no nx) (fun _ _ _ _ _=>.no) (fun _ _ _ _ _=>.no) (fun _ _ _ _=>.no) (fun _ _ _=>.no) (fun b _ _ ex _=>ex b) (fun _ _ _=>.no) (fun _ _ _ _ _ _ _=>.no) (fun _ _ _ _ _ _ _=>.no) (fun _ _ _ _ _=>.no) (fun _ _ _=>.no) (fun _ _ _ _ _ _=>.no) (fun _ _ rt=>rt) (fun _ _ _ _ _ _ _=>.no) (fun _ _ _ _ _=>.no) (fun _ _ _ _ _=>.no) (fun _ _ _ _=>.no) v nx ex rt
noncomputable def noF2:C3→Nat→A:=fun _ _=>.no
noncomputable def rfEnd3 (b:Nat) (t:F3) (nx:Kt) (ex:Nat→Kt) (rt:Kt) (cl:Cl3):KV:=fun _ h n=>hget h b fun bk=>bk .no (fun c=>hupd h b (fun _ f=>f noB) fun h=>cget c 0 fun v=>cF v fun _ s=>cSt s (nx cl t h n) (fun id=>ex id cl t h n) (rt cl t h n)) noF2
noncomputable def rfK (fl:Nat) (g c:G3) (key:Nat):Kt→(Nat→Kt)→Kt→Kt:=fun nx ex rt cl t h n=>g t fun gv=>cF gv fun f q=>ifA (Nat.ble BND f) .no (c t fun vs=>ifA (Nat.ble fl n)
 (lay3 (.cons .np vs) ce3 0 fun cs _=>cupd cs 0 (fun _ g=>g (.fn key (.b false))) fun cs=>hupd h n (fun _ f=>f (mpB cs)) fun h=>frc (Nat.succ n) fun m=>frc (Nat.add 33554432 key) fun fk=>cl f (.cons (.fn fk (.cons (.mp n) .nil)) q) h m (rfEnd3 n t nx ex rt cl)) .no)
noncomputable def codew (ys:Ys) (fl:Nat) (c:RC):Cw:=@RC.rec (fun _=>Cw) (.mk (fun nx _ _=>nx))
 (fun l=>@Lw'.rec F3 H3 (fun _=>Cw) (fun a=>.mk (fun nx _ _=>a nx)) .no (lw ys fl l)) (fun l=>@Dv'.rec F3 H3 (fun _=>Cw) (fun a=>.mk (fun nx _ _=>drK a nx)) .no (dw ys fl l))
 (fun _ _ fa fb=>@Cw'.rec F3 H3 (fun _=>Cw) (fun a=>@Cw'.rec F3 H3 (fun _=>Cw) (fun b=>.mk (sqK a b)) .no fb) .no fa)
 (fun c _ _ fa fb=>@Gw.rec (fun _=>Cw) (fun g=>@Cw'.rec F3 H3 (fun _=>Cw) (fun a=>@Cw'.rec F3 H3 (fun _=>Cw) (fun b=>.mk (fun nx ex rt=>cdK g (a nx ex rt) (b nx ex rt))) .no fb) .no fa) (ropW c))
 (fun id _ fa=>@Cw'.rec F3 H3 (fun _=>Cw) (fun a=>.mk (fun nx ex rt=>a nx (exU ex id nx) rt)) .no fa)
 (fun _ fa=>@Cw'.rec F3 H3 (fun _=>Cw) (fun a=>.mk (fun _ ex rt=>loopK a ex rt 1048576)) .no fa)
 (fun id=>.mk (fun _ ex _=>ex id)) (.mk (fun _ _ rt=>rt)) (fun g key sv=>@Gw.rec (fun _=>Cw) (fun g=>@Gw.rec (fun _=>Cw) (fun c=>.mk (rfK fl g c key)) (evw (sv.map RO.t))) (ropW g)) c
/-! calls -/
noncomputable def argZ (s:S3) (z:RV→F3→(F3→A)→A):RV→F3→(F3→A)→A:=fun a t k=>cN a fun x r=>s t x fun t=>z r t k
noncomputable def argE:RV→F3→(F3→A)→A:=fun a t k=>cNn a (k t) (fun _ _=>.no)
noncomputable def argW:Nat→Nat→Zw:=@Nat.rec (fun _=>Nat→Zw) (fun _=>.mk argE) (fun _ ih i=>@Sw.rec (fun _=>Zw) (fun s=>@Zw'.rec F3 (fun _=>Zw) (fun z=>.mk (argZ s z)) (ih (Nat.succ i))) (setK i))
noncomputable def rsT (g:G3) (r:F3→H3→(RV→A)→A):F3→H3→(RV→A)→A:=fun t h k=>g t fun v=>cU v (r t h fun c=>k (.cons v c))
noncomputable def rsC (g:G3) (ag:Bool) (m:Nat) (r:F3→H3→(RV→A)→A):F3→H3→(RV→A)→A:=fun t h k=>g t fun p=>cP p fun b o=>hget h b fun bk=>bk .no noM fun c _=>rdA ag m c o fun v=>r t h fun c=>k (.cons v c)
noncomputable def resW (l:List RS):Rw:=@List.rec RS (fun _=>Rw) (.mk (fun _ _ k=>k .nil)) (fun x _ ih=>@Rw'.rec F3 H3 (fun _=>Rw) (fun r=>@RS.rec (fun _=>Rw) (fun p=>@Gw.rec (fun _=>Rw) (fun g=>.mk (rsT g r)) (getK (Nat.sub (Pa.val p) 1))) (fun p ag m=>@Gw.rec (fun _=>Rw) (fun g=>.mk (rsC g ag m r)) (getK (Nat.sub (Pa.val p) 1))) x) ih) l
noncomputable def retK (r:F3→H3→(RV→A)→A) (k:KV):Kt:=fun _ t h n=>r t h fun c=>cNn c (k (.tup .nil) h n) (fun a q=>cNn q (cU a (k a h n)) (fun b q=>k (.tup (.cons a (.cons b q))) h n))
noncomputable def bodyK (z:RV→F3→(F3→A)→A) (c:Kt→(Nat→Kt)→Kt→Kt) (r:F3→H3→(RV→A)→A):Cl3→RV→H3→Nat→KV→A:=fun cl a h n k=>z a f0 fun t=>c (retK r k) (fun _=>noK) (retK r k) cl t h n
/-! a round -/
noncomputable def slZ (l:List Pa):Zw:=@List.rec Pa (fun _=>Zw) (.mk argE) (fun p _ ih=>@Sw.rec (fun _=>Zw) (fun s=>@Zw'.rec F3 (fun _=>Zw) (fun z=>.mk (argZ s z)) ih) (setK (Nat.sub (Pa.val p) 1))) l
noncomputable def recS (key b:Nat) (is:Bool) (st:RV) (h:H3) (k:H3→A):A:=hupd h b (fun bk f=>bk .no (fun c=>cget c 0 fun v=>cF v fun q s=>ifA (Nat.beq q key) (cB s fun busy=>ifA (eqB busy is) (cupd c 0 (fun _ g=>g (.fn key st)) fun c=>f (mpB c)) .no) .no) noF2) k
noncomputable def rndK (key b:Nat) (st:RV) (ans:Bool) (k:KV):Kt:=fun _ _ h n=>recS key b true st h fun h=>k (.b ans) h n
noncomputable def rndB (fl key nv:Nat) (zs zp:RV→F3→(F3→A)→A) (A0 B0:Kt→(Nat→Kt)→Kt→Kt):Cl3→RV→H3→Nat→KV→A:=fun cl a h n k=>cN a fun y xs=>cMp y fun b=>ifA (Nat.ble fl b) (hget h b fun bk=>bk .no (fun c=>cget c 0 fun v=>cF v fun q _=>ifA (Nat.beq q key) (rd3 nv c 1 fun vs=>zs vs f0 fun t=>zp xs t fun t=>
 A0 (fun cl t h n=>recS key b false (.b true) h fun h=>B0 (rndK key b (.b false) true k) (fun id=>rndK key b (.p id 0) false k) (rndK key b .nil false k) cl t h n) (fun _=>noK) noK cl t h n) .no) noF2) .no
noncomputable def bw (ys:Ys) (fl:Nat) (f:RF):Bw:=@RF.rec (fun _=>Bw) (fun np b rs=>@Zw'.rec F3 (fun _=>Bw) (fun z=>@Rw'.rec F3 H3 (fun _=>Bw) (fun r=>@Cw'.rec F3 H3 (fun _=>Bw) (fun c=>.mk (bodyK z c r)) .no (codew ys fl b)) (resW rs)) (argW np 0))
 (fun key nv sv ps a b=>@Zw'.rec F3 (fun _=>Bw) (fun zs=>@Zw'.rec F3 (fun _=>Bw) (fun zp=>@Cw'.rec F3 H3 (fun _=>Bw) (fun A0=>@Cw'.rec F3 H3 (fun _=>Bw) (fun B0=>.mk (rndB fl key nv zs zp A0 B0)) .no (codew ys fl b)) .no (codew ys fl a)) (slZ ps)) (slZ sv)) f
noncomputable def bwO (ys:Ys) (fl:Nat) (o:Option RF):Bw:=@Option.rec RF (fun _=>Bw) .no (bw ys fl) o
noncomputable def cOQ:Option (Nat × RV)→A→(Nat→RV→A)→A:=@Option.rec (Nat × RV) (fun _=>A→(Nat→RV→A)→A) (fun n _=>n) (fun x _ k=>k x.1 x.2)
noncomputable def kc3 (h:H3) (n z:Nat) (ch:RV) (k:KV):A:=hget h 0 fun bk=>bk .no noM fun c _=>rd3 z c 0 fun r=>ifA (eqV r ch) (k (.b true) h n) .no
noncomputable def call3 (ys:Ys) (fl:Nat) (fs:Nat→Option RF) (orc:Nat→RV→Option RV) (kc:Nat→RV→Option (Nat × RV)) (deep:Nat):Cl3:=
 @Nat.rec (fun _=>Cl3) (fun _ _ _ _ _=>.no) (fun _ ih f a h n k=>cOQ (kc f a) (cOV (orc f a) (@Bw'.rec H3 (fun _=>Cl3→RV→H3→Nat→KV→A) (fun b=>b) (fun _ _ _ _ _=>.no) (bwO ys fl (fs f)) ih a h n k) (fun v=>k v h n)) fun z ch=>ifA (Nat.ble 16777216 z) (told3 ys (Nat.sub z 16777216) ch a fl h n k) (kc3 h n z ch k)) deep
noncomputable def isT:KV:=fun v _ _=>cB v fun x=>ifA x .yes .no
end
end Go.Rn
