/-
  One text of a symbolic evaluator over the model, shown sound once for every program: no statement is claimed here.
-/
import Derived.Test.YtendogjdmabknaaRqA
namespace Go.Rn
attribute [local irreducible] HT9 CT7
abbrev KV' (H : Type) := RV → H → Nat → A
abbrev Cl3' (H : Type) := Nat → RV → H → Nat → KV' H → A
abbrev Kt' (F H : Type) := Cl3' H → F → H → Nat → A
abbrev P3' (F : Type) := F → (RV → A) → A
abbrev E3' (F H : Type) := Cl3' H → F → H → Nat → KV' H → A
abbrev Kd' (F H : Type) := Nat → List CK → List H → Kt' F H
/-- what is linked: an operation | some of them, one behind the other | code | a function -/
inductive Ow' (F H : Type) where | p (f : P3' F) | e (f : E3' F H) | no
inductive Nw' (F : Type) where | mk (f : F → Nat → (Nat → A) → A)
inductive Fw' (F : Type) where | mk (f : F → RV → (RV → A) → A)
inductive Lw' (F H : Type) where | mk (f : Kt' F H → Kt' F H) | no
inductive Cw' (F H : Type) where | mk (f : Kt' F H → (Nat → Kt' F H) → Kt' F H → Kt' F H) | no
inductive Zw' (F : Type) where | mk (f : RV → F → (F → A) → A)
inductive Rw' (F H : Type) where | mk (f : F → H → (RV → A) → A)
inductive Bw' (H : Type) where | mk (f : Cl3' H → RV → H → Nat → KV' H → A) | no
inductive Dv' (F H : Type) where | mk (f : Kd' F H → Kd' F H) | no
abbrev KV := KV' H3
abbrev Cl3 := Cl3' H3
abbrev Kt := Kt' F3 H3
abbrev P3 := P3' F3
abbrev E3 := E3' F3 H3
abbrev Kd := Kd' F3 H3
abbrev Ow := Ow' F3 H3
abbrev Nw := Nw' F3
abbrev Fw := Fw' F3
abbrev Lw := Lw' F3 H3
abbrev Cw := Cw' F3 H3
abbrev Zw := Zw' F3
abbrev Rw := Rw' F3 H3
abbrev Bw := Bw' H3
abbrev Dv := Dv' F3 H3
section
noncomputable def ropW : RO → Gw := @RO.rec (fun _ => Gw) (fun p => getK (Nat.sub (Pa.val p) 1)) (fun v => .mk (fun _ k => k v))
noncomputable def g1 (x : RO) (f : G3 → Ow) : Ow := @Gw.rec (fun _ => Ow) f (ropW x)
noncomputable def consW (g r : G3) : G3 := fun t k => g t fun v => cU v (r t fun c => k (.cons v c))
noncomputable def evw (l : List RO) : Gw := @List.rec RO (fun _ => Gw) (.mk (fun _ k => k .nil)) (fun x _ ih => @Gw.rec (fun _ => Gw) (fun r => @Gw.rec (fun _ => Gw) (fun g => .mk (consW g r)) (ropW x)) ih) l
noncomputable def optN3 (g : G3) : F3 → Nat → (Nat → A) → A := fun t _ k => g t fun v => cK v k
noncomputable def optW : Option RO → Nw := @Option.rec RO (fun _ => Nw) (.mk (fun _ d k => k d)) (fun x => @Gw.rec (fun _ => Nw) (fun g => .mk (optN3 g)) (ropW x))
noncomputable def n1 (x : Option RO) (f : (F3 → Nat → (Nat → A) → A) → Ow) : Ow := @Nw'.rec F3 (fun _ => Ow) f (optW x)
/-! chains -/
noncomputable def chG : Nat → RV → (RV → A) → A := @Nat.rec (fun _ => RV → (RV → A) → A) (fun c k => cN c fun x _ => cU x (k x)) (fun _ ih c k => cN c fun _ r => ih r k)
noncomputable def skip3 : Nat → RV → (RV → A) → A := @Nat.rec (fun _ => RV → (RV → A) → A) (fun c k => k c) (fun _ ih c k => cN c fun _ r => ih r k)
noncomputable def take3 : Nat → RV → (RV → A) → A := @Nat.rec (fun _ => RV → (RV → A) → A) (fun _ k => k .nil) (fun _ ih c k => cN c fun x r => cU x (ih r fun q => k (.cons x q)))
noncomputable def part3 (g : Bool) (c : RV) (off m : Nat) (k : RV → A) : A := ifA g (skip3 off c fun r => take3 m r fun r => k (.agg r)) (chG off c k)
noncomputable def lay3 : RV → C3 → Nat → (C3 → Nat → A) → A := @RV.rec (fun _ => C3 → Nat → (C3 → Nat → A) → A) (fun _ _ _ => .no) (fun _ _ _ => .no) (fun _ _ _ _ => .no) (fun _ _ _ _ _ => .no) (fun _ _ _ _ _ => .no) (fun _ _ _ _ => .no) (fun _ _ _ => .no) (fun _ _ _ _ _ => .no) (fun _ _ _ => .no) (fun _ _ _ _ _ _ _ => .no) (fun _ _ _ _ _ _ _ => .no) (fun _ _ _ _ _ => .no) (fun _ _ _ => .no) (fun _ _ _ _ _ _ => .no) (fun t i k => k t i)
  (fun x _ _ ih t i k => cupd t i (fun _ c => c x) fun t => ih t (Nat.succ i) k) (fun _ _ _ _ _ => .no) (fun _ _ _ _ _ => .no) (fun _ _ _ _ => .no)
noncomputable def over3 : RV → C3 → Nat → (C3 → A) → A := @RV.rec (fun _ => C3 → Nat → (C3 → A) → A) (fun _ _ _ => .no) (fun _ _ _ => .no) (fun _ _ _ _ => .no) (fun _ _ _ _ _ => .no) (fun _ _ _ _ _ => .no) (fun _ _ _ _ => .no) (fun _ _ _ => .no) (fun _ _ _ _ _ => .no) (fun _ _ _ => .no) (fun _ _ _ _ _ _ _ => .no) (fun _ _ _ _ _ _ _ => .no) (fun _ _ _ _ _ => .no) (fun _ _ _ => .no) (fun _ _ _ _ _ _ => .no) (fun t _ k => k t)
  (fun x _ _ ih t i k => cupd t i (fun y c => cU y (c x)) fun t => ih t (Nat.succ i) k) (fun _ _ _ _ _ => .no) (fun _ _ _ _ _ => .no) (fun _ _ _ _ => .no)
noncomputable def rd3 : Nat → C3 → Nat → (RV → A) → A := @Nat.rec (fun _ => C3 → Nat → (RV → A) → A) (fun _ _ k => k .nil) (fun _ ih c o k => cget c o fun v => cU v (ih c (Nat.succ o) fun r => k (.cons v r)))
noncomputable def rdA (g : Bool) (m : Nat) (c : C3) (o : Nat) (k : RV → A) : A := ifA g (rd3 m c o fun r => k (.agg r)) (cget c o fun v => cU v (k v))
noncomputable def frcL : List Nat → (List Nat → A) → A := @List.rec Nat (fun _ => (List Nat → A) → A) (fun k => k []) (fun x _ ih k => frc x fun x => ih fun r => k (x :: r))
noncomputable def nthN : List Nat → Nat → (Nat → A) → A := @List.rec Nat (fun _ => Nat → (Nat → A) → A) (fun _ _ => .no) (fun x _ ih i k => @Nat.rec (fun _ => A) (k x) (fun j _ => ih j k) i)
noncomputable def cLen (v : RV) (k : Nat → A) : A := cL v (k 0) (fun _ _ l _ => k l) (fun _ _ l _ => k l) (fun _ _ => k 0)
/-! memory -/
noncomputable def noM : C3 → A := fun _ => .no
noncomputable def newB (h : H3) (n : Nat) (c : C3) (z : Nat) (v : RV) (k : KV) : A := ifA (Nat.beq z MAPZ) .no (hupd h n (fun _ f => f (bkB c z)) fun h => frc (Nat.succ n) fun m => k v h m)
noncomputable def newC (h : H3) (n : Nat) (c : RV) (v : RV) (k : KV) : A := lay3 c ce3 0 fun cs z => frc z fun z => newB h n cs z v k
noncomputable def st1 (fl : Nat) (h : H3) (b o : Nat) (v : RV) (k : H3 → A) : A := ifA (Nat.ble fl b) (hupd h b (fun bk f => bk .no noM fun c z => cupd c o (fun y g => cU y (g v)) fun c => f (bkB c z)) k) .no
noncomputable def stB (fl : Nat) (h : H3) (b o : Nat) (v : RV) (k : H3 → A) : A := ifA (Nat.ble fl b) (hupd h b (fun bk f => bk .no noM fun c z => over3 v c o fun c => f (bkB c z)) k) .no
noncomputable def row3 (h : H3) (es b o m : Nat) (k : RV → A) : A := hget h b fun bk => bk .no noM fun c _ => frc (Nat.mul m es) fun q => rd3 q c o k
noncomputable def slC (h : H3) (es : Nat) (v : RV) (m : Nat) (k : RV → A) : A := cL v .no (fun b o l _ => ifA (Nat.ble m l) (row3 h es b o m k) .no) (fun b o l _ => ifA (Nat.ble m l) (row3 h es b o m k) .no) (fun _ _ => .no)
noncomputable def growC3 (h : H3) (n es b o l : Nat) (y : RV) (m : Nat) (kill : H3) (k : KV) : A := row3 h es b o l fun r => cUv (chApp r y) fun r => lay3 r ce3 0 fun cs _ => frc (Nat.add l m) fun q => frc (Nat.mul q es) fun z => newB kill n cs z (.su n 0 q es) k
noncomputable def killB (h : H3) (b : Nat) (k : H3 → A) : A := hupd h b (fun _ f => f noB) k
noncomputable def growU3 (h : H3) (n es b o l : Nat) (y : RV) (m : Nat) (k : KV) : A := hget h b fun bk => bk .no noM fun c z => killB h b fun kill =>
  ifA (bf (Nat.beq o 0) (Nat.beq z (Nat.mul l es)) false) (lay3 y c z fun cs _ => frc (Nat.add l m) fun q => frc (Nat.mul q es) fun z => newB kill n cs z (.su n 0 q es) k) (growC3 h n es b o l y m kill k)
noncomputable def newY (h : H3) (n es : Nat) (y : RV) (m : Nat) (k : KV) : A := lay3 y ce3 0 fun cs _ => frc (Nat.mul m es) fun z => newB h n cs z (.su n 0 m es) k
noncomputable def apC (fl es : Nat) (x : RV) (m : Nat) (y : RV) (h : H3) (n : Nat) (k : KV) : A :=
  cL x (newY h n es y m k)
    (fun b o l c => ifA (Nat.ble (Nat.add l m) c) (frc (Nat.add o (Nat.mul l es)) fun q => stB fl h b q y fun h => frc (Nat.add l m) fun lm => k (.sl b o lm c) h n) (ifA (Nat.beq l 0) (newY h n es y m k) (growC3 h n es b o l y m h k)))
    (fun b o l e => ifA (Nat.beq e es) (ifA (Nat.ble fl b) (growU3 h n es b o l y m k) .no) .no)
    (fun b e => ifA (Nat.beq e es) (ifA (Nat.ble fl b) (hget h b fun bk => bk .no noM fun _ _ => killB h b fun kill => newY kill n es y m k) .no) .no)
/-! pure operations -/
noncomputable def pMv (g : G3) : P3 := fun t k => g t fun v => cU v (k v)
noncomputable def pPick (c a b : G3) : P3 := fun t k => c t fun c => cB c fun x => ifA x (a t fun v => cU v (k v)) (b t fun v => cU v (k v))
noncomputable def pNc (g : G3) : P3 := fun t k => g t fun v => cNc v (k v)
noncomputable def pBin (f : RV → RV → (RV → A) → A) (x y : G3) : P3 := fun t k => x t fun x => y t fun y => f x y k
noncomputable def cM2 (x y : RV) (fi fu : Nat → Nat → A) (s : A) : A := cM x (fun a => cM y (fun b => fi a b) (fun _ => s) s) (fun a => cM y (fun _ => s) (fun b => fu a b) s) s
noncomputable def mk64 (k : RV → A) (r : Nat) : A := k (.i .i64 (.ofNat r))
noncomputable def mkU (k : RV → A) (r : Nat) : A := k (.i .u64 (.ofNat r))
noncomputable def chkI (r : Nat) (k : RV → A) (s : A) : A := ifA (Nat.ble r 9223372036854775807) (frc r (mk64 k)) s
noncomputable def chkU (r : Nat) (k : RV → A) (s : A) : A := ifA (Nat.ble r 18446744073709551615) (frc r (mkU k)) s
noncomputable def slow (ys : Ys) (op : BinOp) (x y : RV) (k : RV → A) : A := cUv (binV ys op x y) k
noncomputable def bAdd (ys : Ys) (x y : RV) (k : RV → A) : A := cM2 x y (fun a b => chkI (Nat.add a b) k (slow ys .add x y k)) (fun a b => frc (Nat.mod (Nat.add a b) 18446744073709551616) (mkU k)) (slow ys .add x y k)
noncomputable def bMul (ys : Ys) (x y : RV) (k : RV → A) : A := cM2 x y (fun a b => chkI (Nat.mul a b) k (slow ys .mul x y k)) (fun a b => frc (Nat.mod (Nat.mul a b) 18446744073709551616) (mkU k)) (slow ys .mul x y k)
noncomputable def bSub (ys : Ys) (x y : RV) (k : RV → A) : A := cM2 x y (fun a b => ifA (Nat.ble b a) (chkI (Nat.sub a b) k (slow ys .sub x y k)) (slow ys .sub x y k)) (fun a b => ifA (Nat.ble b a) (chkU (Nat.sub a b) k (slow ys .sub x y k)) (slow ys .sub x y k)) (slow ys .sub x y k)
noncomputable def bBit (ys : Ys) (op : BinOp) (f : Nat → Nat → Nat) (x y : RV) (k : RV → A) : A := cM2 x y (fun a b => chkI (f a b) k (slow ys op x y k)) (fun a b => chkU (f a b) k (slow ys op x y k)) (slow ys op x y k)
noncomputable def bCmp (ys : Ys) (op : BinOp) (f : Nat → Nat → Bool) (x y : RV) (k : RV → A) : A := cM2 x y (fun a b => mkBk (f a b) k) (fun a b => mkBk (f a b) k) (slow ys op x y k)
noncomputable def bQuo (ys : Ys) (x y : RV) (k : RV → A) : A := cM2 x y (fun a b => ifA (Nat.beq b 0) .no (chkI (Nat.div a b) k (slow ys .quo x y k))) (fun _ _ => slow ys .quo x y k) (slow ys .quo x y k)
noncomputable def bRem (ys : Ys) (x y : RV) (k : RV → A) : A := cM2 x y (fun a b => ifA (Nat.beq b 0) .no (frc (Nat.mod a b) (mk64 k))) (fun _ _ => slow ys .rem x y k) (slow ys .rem x y k)
noncomputable def bShl (ys : Ys) (x y : RV) (k : RV → A) : A := cM x (fun a => cM y (fun b => ifA (Nat.ble b 64) (chkI (Nat.mul a (Nat.pow 2 b)) k (slow ys .shl x y k)) .no) (fun b => ifA (Nat.ble b 64) (chkI (Nat.mul a (Nat.pow 2 b)) k (slow ys .shl x y k)) .no) (slow ys .shl x y k))
  (fun a => cM y (fun b => ifA (Nat.ble b 64) (frc (Nat.mod (Nat.mul a (Nat.pow 2 b)) 18446744073709551616) (mkU k)) .no) (fun b => ifA (Nat.ble b 64) (frc (Nat.mod (Nat.mul a (Nat.pow 2 b)) 18446744073709551616) (mkU k)) .no) (slow ys .shl x y k)) (slow ys .shl x y k)
noncomputable def bShr (ys : Ys) (x y : RV) (k : RV → A) : A := cM x (fun a => cM y (fun b => ifA (Nat.ble b 64) (frc (Nat.div a (Nat.pow 2 b)) (mk64 k)) .no) (fun b => ifA (Nat.ble b 64) (frc (Nat.div a (Nat.pow 2 b)) (mk64 k)) .no) (slow ys .shr x y k))
  (fun a => cM y (fun b => ifA (Nat.ble b 64) (frc (Nat.div a (Nat.pow 2 b)) (mkU k)) .no) (fun b => ifA (Nat.ble b 64) (frc (Nat.div a (Nat.pow 2 b)) (mkU k)) .no) (slow ys .shr x y k)) (slow ys .shr x y k)
noncomputable def neqN (a b : Nat) : Bool := notB (Nat.beq a b)
noncomputable def lssN (a b : Nat) : Bool := Nat.ble (Nat.succ a) b
noncomputable def gtrN (a b : Nat) : Bool := Nat.ble (Nat.succ b) a
noncomputable def geqN (a b : Nat) : Bool := Nat.ble b a
noncomputable def binW (ys : Ys) : BinOp → RV → RV → (RV → A) → A := @BinOp.rec (fun _ => RV → RV → (RV → A) → A) (bAdd ys) (bSub ys) (bMul ys) (bQuo ys) (bRem ys) (bBit ys .and Nat.land) (bBit ys .or Nat.lor) (bBit ys .xor Nat.xor) (bShl ys) (bShr ys) (slow ys .andNot)
  (bCmp ys .eql Nat.beq) (bCmp ys .neq neqN) (bCmp ys .lss lssN) (bCmp ys .leq Nat.ble) (bCmp ys .gtr gtrN) (bCmp ys .geq geqN)
noncomputable def pBq (neg : Bool) (x y : G3) : P3 := fun t k => x t fun x => cB x fun a => y t fun y => cB y fun b => mkBk (eqB neg (notB (eqB a b))) k
noncomputable def pNq (kd : Nat) (neg : Bool) (x y : G3) : P3 := fun t k => x t fun x => cNil x fun ka a => y t fun y => cNil y fun kb b => ifA (Nat.beq ka kd) (ifA (Nat.beq kb kd) (ifA b (mkBk (eqB neg (notB a)) k) (ifA a (mkBk neg k) .no)) .no) .no
noncomputable def pSe (ys : Ys) (ks : List Nat) (neg : Bool) (x y : G3) : P3 := fun t k => x t fun x => cA x fun c => y t fun y => cA y fun d => cB (eqCh ys ks c d) fun r => mkBk (eqB neg (notB r)) k
noncomputable def pNg (x : G3) : P3 := fun t k => x t fun x => cY x (fun j e => k (.y j (.sub j (.c 0) e))) (fun j z => cUv (arI .sub j 0 z) k)
noncomputable def pNt (x : G3) : P3 := fun t k => x t fun x => cB x fun a => mkBk (notB a) k
noncomputable def slowC (j : IntKind) (x : RV) (k : RV → A) : A := cI x fun _ z => cUv (wrapI j z) k
noncomputable def cvF : IntKind → RV → (RV → A) → A := @IntKind.rec (fun _ => RV → (RV → A) → A) (slowC .i8) (slowC .i16) (slowC .i32) (fun x k => cM x (fun m => chkI m k (slowC .i64 x k)) (fun m => chkI m k (slowC .i64 x k)) (slowC .i64 x k)) (slowC .u8) (slowC .u16) (slowC .u32) (fun x k => cM x (fun m => chkU m k (slowC .u64 x k)) (fun m => chkU m k (slowC .u64 x k)) (slowC .u64 x k))
noncomputable def pCv (f : RV → (RV → A) → A) (x : G3) : P3 := fun t k => x t fun x => f x k
noncomputable def pMf (f : Nat) (c : G3) : P3 := fun t k => c t fun c => k (.fn f c)
noncomputable def pSc (es : Nat) (x : G3) (lo hi : F3 → Nat → (Nat → A) → A) : P3 := fun t k => x t fun v => cLen v fun l => lo t 0 fun a => hi t l fun b => cUv (slV es v a b none) k
noncomputable def pSc3 (es : Nat) (x : G3) (lo hi : F3 → Nat → (Nat → A) → A) (mx : F3 → Nat → (Nat → A) → A) : P3 := fun t k => x t fun v => cLen v fun l => lo t 0 fun a => hi t l fun b => mx t 0 fun m => cUv (slV es v a b (some m)) k
noncomputable def pSs (x : G3) (lo hi : F3 → Nat → (Nat → A) → A) : P3 := fun t k => x t fun v => cS v fun l => frc l.length fun n => lo t 0 fun a => hi t n fun b => ifA (Nat.ble a b) (ifA (Nat.ble b n) (frcL ((l.take b).drop a) fun l => k (.s l)) .no) .no
noncomputable def pSa (m es : Nat) (x : G3) (lo hi : F3 → Nat → (Nat → A) → A) : P3 := fun t k => x t fun v => cP v fun b o => lo t 0 fun a => hi t m fun e => cUv (slK es b o a e m) k
noncomputable def pFa (off : Nat) (x : G3) : P3 := fun t k => x t fun v => cP v fun b o => frc (Nat.add o off) fun o => k (.p b o)
noncomputable def pFd (g : Bool) (off m : Nat) (x : G3) : P3 := fun t k => x t fun v => cA v fun c => part3 g c off m k
noncomputable def iaK (es b o l a : Nat) (k : RV → A) : A := ifA (Nat.ble (Nat.succ a) l) (frc (Nat.add o (Nat.mul a es)) fun o => k (.p b o)) .no
noncomputable def pIa (es : Nat) (x i : G3) : P3 := fun t k => x t fun v => i t fun j => cK j fun a => cL v .no (fun b o l _ => iaK es b o l a k) (fun b o l _ => iaK es b o l a k) (fun _ _ => .no)
noncomputable def pIp (m es : Nat) (x i : G3) : P3 := fun t k => x t fun v => i t fun j => cK j fun a => cP v fun b o => iaK es b o m a k
noncomputable def pIx (g : Bool) (m es : Nat) (x i : G3) : P3 := fun t k => x t fun v => i t fun j => cK j fun a => cA v fun c => ifA (Nat.ble (Nat.succ a) m) (frc (Nat.mul a es) fun o => part3 g c o es k) .no
noncomputable def pSx (x i : G3) : P3 := fun t k => x t fun v => i t fun j => cK j fun a => cS v fun l => nthN l a fun c => k (.i .u8 (.ofNat c))
noncomputable def pEx (j : Nat) (x : G3) : P3 := fun t k => x t fun v => cT v fun c => chG j c k
/-! interfaces -/
noncomputable def cIf (v : RV) (z : A) (k : Nat → RV → A) : A := cF v fun f c => ifA (Nat.ble 33554432 f) (cNn c z fun y r => cNn y (cN r fun x q => cNn q (k f x) fun _ _ => .no) fun _ _ => .no) .no
noncomputable def taN (z : RV) (two : Bool) (k : RV → A) : A := ifA two (cUv z fun z => k (.tup (.cons z (.cons (.b false) .nil)))) .no
noncomputable def taY (two : Bool) (v : RV) (k : RV → A) : A := cUv v fun v => ifA two (k (.tup (.cons v (.cons (.b true) .nil)))) (k v)
noncomputable def pTa (ty : Nat) (z : RV) (two : Bool) (x : G3) : P3 := fun t k => x t fun v => cIf v (taN z two k) fun f v => ifA (Nat.beq f (Nat.add 33554432 ty)) (taY two v k) (taN z two k)
noncomputable def ivR3 (st g : Bool) (off m : Nat) (v : RV) (k : RV → A) : A := ifA st (cA v fun c => part3 g c off m k) (cUv v k)
noncomputable def ivE3 (f : Nat) (e : IvE) (v : RV) (k : Nat → RV → A) (d : A) : A := @IvE.rec (fun _ => A) (fun ty g st ag off m => ifA (Nat.beq f (Nat.add 33554432 ty)) (ivR3 st ag off m v fun r => k g r) d) e
noncomputable def ivL3 (f : Nat) (l : List IvE) (v : RV) (k : Nat → RV → A) : A := @List.rec IvE (fun _ => A) .no (fun e _ d => ivE3 f e v k d) l
noncomputable def eIv (l : List IvE) (x c : G3) : E3 := fun cl t h n k => x t fun v => cIf v .no fun f v => ivL3 f l v fun g r => c t fun a => cl g (.cons r a) h n k
noncomputable def pLnS (x : G3) : P3 := fun t k => x t fun v => cS v fun l => frc l.length (mk64 k)
noncomputable def pLn (x : G3) : P3 := fun t k => x t fun v => cLen v (mk64 k)
noncomputable def pCp (x : G3) : P3 := fun t k => x t fun v => cL v (mk64 k 0) (fun _ _ _ c => mk64 k c) (fun _ _ _ _ => .no) (fun _ _ => .no)
noncomputable def slowM (mx : Bool) (x y : RV) (k : RV → A) : A := cI x fun j a => cI y fun i b => ifA (eqK j i) (cUv (mkI j (bf (bf mx (ltI a b) (ltI b a)) b a)) k) .no
noncomputable def pMm (mx : Bool) (x y : G3) : P3 := fun t k => x t fun x => y t fun y => slowM mx x y k
/-! fields laid over a constant -/
noncomputable def ovr3 : RV → RV → (RV → A) → A := fun z p k => cUv (patch z p 0) k
noncomputable def pat3 : Nat → RV → RV → (RV → A) → A := @Nat.rec (fun _ => RV → RV → (RV → A) → A) (fun z p k => cUv (patch z p 0) k) (fun _ ih z p k => cN z fun x r => cU x (ih r p fun q => k (.cons x q)))
noncomputable def fil1 (off m : Nat) (g : G3) (r : F3 → RV → (RV → A) → A) : F3 → RV → (RV → A) → A := fun t z k => g t fun v => cC v (fun c => cON (chLen c) fun q => ifA (Nat.beq q m) (pat3 off z c fun z => r t z k) .no) (ifA (Nat.beq 1 m) (pat3 off z (.cons v .nil) fun z => r t z k) .no)
noncomputable def filw (l : List (Nat × Nat × RO)) : Fw := @List.rec (Nat × Nat × RO) (fun _ => Fw) (.mk (fun _ z k => k z)) (fun x _ ih => @Fw'.rec F3 (fun _ => Fw) (fun r => @Gw.rec (fun _ => Fw) (fun g => .mk (fil1 x.1 x.2.1 g r)) (ropW x.2.2)) ih) l
noncomputable def pBd (z : RV) (f : F3 → RV → (RV → A) → A) : P3 := fun t k => f t z fun c => k (.agg c)
/-! operations on memory -/
noncomputable def eBs (z : RV) (len : Nat) (f : F3 → RV → (RV → A) → A) : E3 := fun _ t h n k => f t z fun c => newC h n c (.sl n 0 len len) k
noncomputable def eAl (z : RV) : E3 := fun _ _ h n k => newC h n z (.p n 0) k
noncomputable def eBx (x : G3) : E3 := fun _ t h n k => x t fun v => cC v (fun c => newC h n c (.p n 0) k) (newC h n (.cons v .nil) (.p n 0) k)
noncomputable def eLd (g : Bool) (m : Nat) (a : G3) : E3 := fun _ t h n k => a t fun p => cP p fun b o => hget h b fun bk => bk .no noM fun c _ => rdA g m c o fun v => k v h n
noncomputable def eSt (fl m : Nat) (a v : G3) : E3 := fun _ t h n k => a t fun p => cP p fun b o => v t fun v => cC v (fun c => cON (chLen c) fun q => ifA (Nat.beq q m) (stB fl h b o c fun h => k .ud h n) .no) (ifA (Nat.beq 1 m) (st1 fl h b o v fun h => k .ud h n) .no)
noncomputable def eMs (z : RV) (l c : G3) : E3 := fun _ t h n k => l t fun l => cM l (fun a => c t fun c => cM c (fun b => ifA (Nat.ble a b) (ifA (Nat.ble b 65536) (cUv (rep z b) fun r => newC h n r (.sl n 0 a b) k) .no) .no) (fun _ => .no) .no) (fun _ => .no) .no
noncomputable def eAz (es : Nat) (z : RV) (x y : G3) : E3 := fun _ t h n k => x t fun xv => cL xv (y t fun y => cM y (fun a => ifA (Nat.ble 1 a) (ifA (Nat.ble a 65536) (cUv (rep z a) fun r => newC h n r (.su n 0 a es) k) .no) .no) (fun _ => .no) .no) (fun _ _ _ _ => .no) (fun _ _ _ _ => .no) (fun _ _ => .no)
noncomputable def eCl (f : Nat) (c : G3) : E3 := fun cl t h n k => c t fun c => cl f c h n k
noncomputable def eCf (x c : G3) : E3 := fun cl t h n k => x t fun v => cF v fun f q => c t fun a => ifA (Nat.ble BND f) (cN q fun y r => ifA (Nat.ble 33554432 f) (cNn r (frc (Nat.sub f BND) fun f => cl f (.cons y a) h n k) fun _ _ => .no) (cUv (chApp a r) fun z => frc (Nat.sub f BND) fun f => cl f (.cons y z) h n k)) (cUv (chApp a q) fun r => cl f r h n k)
noncomputable def eAp (fl es : Nat) (x y : G3) : E3 := fun _ t h n k => y t fun yv => cLen yv fun m => ifA (Nat.beq m 0) (x t fun xv => cLen xv fun _ => cU xv (k xv h n)) (ifA (Nat.ble m 1048576) (slC h es yv m fun c => x t fun xv => cLen xv fun l => ifA (Nat.ble l 1048576) (apC fl es xv m c h n k) .no) .no)
noncomputable def stL (fl : Nat) (x c : RV) (h : H3) (k : H3 → A) : A := cL x .no (fun b o _ _ => stB fl h b o c k) (fun b o _ _ => stB fl h b o c k) (fun _ _ => .no)
noncomputable def eCy (fl es : Nat) (x y : G3) : E3 := fun _ t h n k => x t fun xv => cLen xv fun a => y t fun yv => cLen yv fun b => frc (bf (Nat.ble b a) b a) fun q => ifA (Nat.beq q 0) (k (.i .i64 (.ofNat 0)) h n) (slC h es yv q fun c => stL fl xv c h fun h => k (.i .i64 (.ofNat q)) h n)
noncomputable def eCr (fl : Nat) (z : RV) (x : G3) : E3 := fun _ t h n k => x t fun xv => cLen xv fun l => ifA (Nat.beq l 0) (k (.tup .nil) h n) (cUv (rep z l) fun c => stL fl xv c h fun h => k (.tup .nil) h n)
noncomputable def g2 (x y : RO) (f : G3 → G3 → Ow) : Ow := g1 x fun a => g1 y fun b => f a b
noncomputable def gl (l : List RO) (f : G3 → Ow) : Ow := @Gw.rec (fun _ => Ow) f (evw l)
noncomputable def gfl (l : List (Nat × Nat × RO)) (f : (F3 → RV → (RV → A) → A) → Ow) : Ow := @Fw'.rec F3 (fun _ => Ow) f (filw l)
noncomputable def scW (es : Nat) (x : RO) (lo hi mx : Option RO) : Ow := g1 x fun x => n1 lo fun lo => n1 hi fun hi => @Option.rec RO (fun _ => Ow) (.p (pSc es x lo hi)) (fun m => n1 (some m) fun m => .p (pSc3 es x lo hi m)) mx
/-! maps -/
noncomputable def eMk : E3 := fun _ _ h n k => cupd ce3 0 (fun _ c => c (.i .i64 (.ofNat 0))) fun cs => hupd h n (fun _ f => f (mpB cs)) fun h => frc (Nat.succ n) fun m => k (.mp n) h m
/-- how many entries -/
noncomputable def sz3 (c : C3) (k : Nat → A) : A := cget c 0 fun v => cM v k (fun _ => .no) .no
/-- the search: j is found | none -/
noncomputable def fnd3 (q : Nat) (c : C3) (key : RV) (y : Nat → A) (n : A) (s : Nat) : Nat → A := @Nat.rec (fun _ => Nat → A) (fun _ => n)
  (fun _ ih i => frc (Nat.add 1 (Nat.mul 2 i)) fun o => cget c o fun v => ifA (Nat.beq (kOf v) q) (ifA (kEq key v) (y i) (frc (Nat.succ i) ih)) .no) s
noncomputable def eMi (fl q : Nat) (m : G3) (ky x : G3) : E3 := fun _ t h n k => m t fun mv => cMp mv fun b => ky t fun key => x t fun v => cU key (cU v (ifA (Nat.beq (kOf key) q) (ifA (Nat.ble fl b)
  (hupd h b (fun bk f => bk .no (fun c => sz3 c fun s => ifA (Nat.ble s 65536) (fnd3 q c key
    (fun j => frc (Nat.add 2 (Nat.mul 2 j)) fun o => cupd c o (fun _ g => g v) fun c => f (mpB c))
    (frc (Nat.add 1 (Nat.mul 2 s)) fun o => cupd c o (fun _ g => g key) fun c => frc (Nat.add 2 (Nat.mul 2 s)) fun o => cupd c o (fun _ g => g v) fun c => frc (Nat.succ s) fun s => cupd c 0 (fun _ g => g (.i .i64 (.ofNat s))) fun c => f (mpB c)) s 0) .no) (fun _ _ => .no)) fun h => k .ud h n) .no) .no))
noncomputable def mlK (two : Bool) (v : RV) (b : Bool) (h : H3) (n : Nat) (k : KV) : A := cU v (ifA two (k (.tup (.cons v (.cons (.b b) .nil))) h n) (k v h n))
noncomputable def eMl (q : Nat) (z : RV) (two : Bool) (m ky : G3) : E3 := fun _ t h n k => m t fun mv => cMp mv fun b => ky t fun key => ifA (Nat.beq (kOf key) q) (hget h b fun bk => bk .no (fun c => sz3 c fun s => fnd3 q c key
  (fun j => frc (Nat.add 2 (Nat.mul 2 j)) fun o => cget c o fun v => mlK two v true h n k) (mlK two z false h n k) s 0) (fun _ _ => .no)) .no
noncomputable def eFg : E3 := fun _ _ h n k => k .un h n
/-- an operation, linked -/
noncomputable def ow (ys : Ys) (fl : Nat) : RP → Ow := @RP.rec (fun _ => Ow)
  (fun x => g1 x fun x => .p (pMv x)) (fun c a b => g1 c fun c => g2 a b fun a b => .p (pPick c a b)) (fun z => .e (eAl z)) (fun x => g1 x fun x => .e (eBx x))
  (fun z ps => nU .no z fun z => gfl ps fun f => .p (pBd z f)) (fun z len ps => nU .no z fun z => gfl ps fun f => .e (eBs z len f))
  (fun g n a => g1 a fun a => .e (eLd g n a)) (fun n a v => g2 a v fun a v => .e (eSt fl n a v)) (fun x => g1 x fun x => .p (pNc x))
  (fun op x y => g2 x y fun x y => .p (pBin (binW ys op) x y)) (fun neg x y => g2 x y fun x y => .p (pBq neg x y)) (fun kd neg x y => g2 x y fun x y => .p (pNq kd neg x y))
  (fun x => g1 x fun x => .p (pNg x)) (fun x => g1 x fun x => .p (pNt x)) (fun k x => g1 x fun x => .p (pCv (cvF k) x)) (fun f cs => gl cs fun c => .p (pMf f c))
  (fun z l c => g2 l c fun l c => .e (eMs z l c)) scW (fun x lo hi => g1 x fun x => n1 lo fun lo => n1 hi fun hi => .p (pSs x lo hi)) (fun n es x lo hi => g1 x fun x => n1 lo fun lo => n1 hi fun hi => .p (pSa n es x lo hi))
  (fun off x => g1 x fun x => .p (pFa off x)) (fun g off n x => g1 x fun x => .p (pFd g off n x)) (fun es x i => g2 x i fun x i => .p (pIa es x i)) (fun n es x i => g2 x i fun x i => .p (pIp n es x i)) (fun g n es x i => g2 x i fun x i => .p (pIx g n es x i)) (fun x i => g2 x i fun x i => .p (pSx x i))
  (fun k x => g1 x fun x => .p (pEx k x)) (fun f as => gl as fun c => .e (eCl f c)) (fun x as => g1 x fun x => gl as fun c => .e (eCf x c))
  (fun st x => g1 x fun x => @Bool.rec (fun _ => Ow) (.p (pLn x)) (.p (pLnS x)) st) (fun x => g1 x fun x => .p (pCp x)) (fun es x y => g2 x y fun x y => .e (eAp fl es x y)) (fun es x y => g2 x y fun x y => .e (eCy fl es x y)) (fun mx x y => g2 x y fun x y => .p (pMm mx x y))
  (fun z x => g1 x fun x => .e (eCr fl z x)) (fun ks neg x y => g2 x y fun x y => .p (pSe ys ks neg x y))
  (.e eMk) (fun q m k x => g1 m fun m => g2 k x fun k x => .e (eMi fl q m k x)) (fun q z two m k => g2 m k fun m k => .e (eMl q z two m k)) (.e eFg)
  (fun es z x y => g2 x y fun x y => .e (eAz es z x y))
  (fun ty z two x => g1 x fun x => .p (pTa ty z two x)) (fun l x as => g1 x fun x => gl as fun c => .e (eIv l x c))
/-! regions -/
noncomputable def dstW : D → Sw := @D.rec (fun _ => Sw) (.mk (fun t _ k => k t)) (fun p => setK (Nat.sub (Pa.val p) 1))
noncomputable def qP (f : P3) (s : S3) : Kt → Kt := fun nx cl t h n => f t fun v => s t v fun t => nx cl t h n
noncomputable def qE (f : E3) (s : S3) : Kt → Kt := fun nx cl t h n => f cl t h n fun v h n => s t v fun t => nx cl t h n
noncomputable def qS (s : S3) : Kt → Kt := fun nx cl t h n => s t .ud fun t => nx cl t h n
noncomputable def gdK (g : G3) (w : Bool) (r s : Kt → Kt) : Kt → Kt := fun nx cl t h n => g t fun v => cG v w (r nx cl t h n) (s nx cl t h n)
noncomputable def gdW (g : G) (r s : Kt → Kt) : Lw := @G.rec (fun _ => Lw) (.mk r) (fun p w => @Gw.rec (fun _ => Lw) (fun g => .mk (gdK g w r s)) (getK (Nat.sub (Pa.val p) 1))) g
noncomputable def lw1 (ys : Ys) (fl : Nat) (q : RQ) : Lw := @RQ.rec (fun _ => Lw) (fun d g _ o => @Sw.rec (fun _ => Lw) (fun s => @Ow'.rec F3 H3 (fun _ => Lw) (fun f => gdW g (qP f s) (qS s)) (fun f => gdW g (qE f s) (qS s)) .no (ow ys fl o)) (dstW d)) q
noncomputable def lw (ys : Ys) (fl : Nat) (l : List RQ) : Lw := @List.rec RQ (fun _ => Lw) (.mk (fun nx => nx)) (fun q _ ih => @Lw'.rec F3 H3 (fun _ => Lw) (fun a => @Lw'.rec F3 H3 (fun _ => Lw) (fun b => .mk (fun nx => a (b nx))) .no ih) .no (lw1 ys fl q)) l
/-! regions that draw -/
noncomputable def liD (r : Kt → Kt) : Kd → Kd := fun nx n0 cs hs => r (nx n0 cs hs)
noncomputable def limD (a : G3) (r : Kd → Kd) : Kd → Kd := fun nx n0 cs hs cl t h n => a t fun p => cP p fun b _ => ifA (Nat.ble (Nat.succ b) n0) (r nx n0 cs hs cl t h n) .no
noncomputable def ckD (p q : Nat) (g : Bool) (m : Nat) (a : G3) (f : E3) (s : S3) : Kd → Kd := fun nx n0 cs hs cl t h n => a t fun pv => cP pv fun b o => ifA (Nat.ble (Nat.succ b) n0) (f cl t h n fun v h n => s t v fun t => nx n0 (.k p q b o g m v :: cs) hs cl t h n) .no
noncomputable def efD (f : E3) (s : S3) : Kd → Kd := fun nx n0 cs hs cl t h n => f cl t h n fun v h n => s t v fun t => nx n0 cs (h :: hs) cl t h n
noncomputable def efP (f : P3) (s : S3) : Kd → Kd := fun nx n0 cs hs cl t h n => f t fun v => s t v fun t => nx n0 cs (h :: hs) cl t h n
noncomputable def skD (s : S3) : Kd → Kd := fun nx n0 cs hs cl t h n => s t .ud fun t => nx n0 cs hs cl t h n
noncomputable def skE (s : S3) : Kd → Kd := fun nx n0 cs hs cl t h n => s t .ud fun t => nx n0 cs (h :: hs) cl t h n
noncomputable def gdD (g : G3) (w : Bool) (r s : Kd → Kd) : Kd → Kd := fun nx n0 cs hs cl t h n => g t fun v => cG v w (r nx n0 cs hs cl t h n) (s nx n0 cs hs cl t h n)
noncomputable def gdV (g : G) (r s : Kd → Kd) : Dv := @G.rec (fun _ => Dv) (.mk r) (fun p w => @Gw.rec (fun _ => Dv) (fun g => .mk (gdD g w r s)) (getK (Nat.sub (Pa.val p) 1))) g
/-- a load's address -/
noncomputable def adW (o : RP) (f : Bool → Nat → G3 → Dv) : Dv := match o with | .ld g m a => @Gw.rec (fun _ => Dv) (f g m) (ropW a) | _ => .no
noncomputable def dw1 (ys : Ys) (fl : Nat) (q : RQ) : Dv := @RQ.rec (fun _ => Dv) (fun d g k o => @Sw.rec (fun _ => Dv) (fun s => @K3.rec (fun _ => Dv)
    (@Ow'.rec F3 H3 (fun _ => Dv) (fun f => gdV g (liD (qP f s)) (skD s)) (fun f => gdV g (liD (qE f s)) (skD s)) .no (ow ys fl o))
    (@Ow'.rec F3 H3 (fun _ => Dv) (fun _ => .no) (fun f => adW o fun _ _ a => gdV g (limD a (liD (qE f s))) (skD s)) .no (ow ys fl o))
    (fun p q => @Ow'.rec F3 H3 (fun _ => Dv) (fun _ => .no) (fun f => adW o fun ag m a => gdV g (ckD p q ag m a f s) (skD s)) .no (ow ys fl o))
    (@Ow'.rec F3 H3 (fun _ => Dv) (fun f => gdV g (efP f s) (skE s)) (fun f => gdV g (efD f s) (skE s)) .no (ow ys fl o)) k) (dstW d)) q
noncomputable def dw (ys : Ys) (fl : Nat) (l : List RQ) : Dv := @List.rec RQ (fun _ => Dv) (.mk (fun nx => nx)) (fun q _ ih => @Dv'.rec F3 H3 (fun _ => Dv) (fun a => @Dv'.rec F3 H3 (fun _ => Dv) (fun b => .mk (fun nx => a (b nx))) .no ih) .no (dw1 ys fl q)) l
noncomputable def ck1 (c : CK) (h : H3) (j : Nat) (y : A) : A := @CK.rec (fun _ => A) (fun p q b o g m v => ifA (Nat.ble p j) (ifA (Nat.ble j q) (hget h b fun bk => bk .no noM fun cs _ => rdA g m cs o fun r => ifA (eqV r v) y .no) y) y) c
noncomputable def ckA (l : List CK) (h : H3) (j : Nat) (y : A) : A := @List.rec CK (fun _ => A) y (fun c _ ih => ck1 c h j ih) l
noncomputable def ckO (hs : List H3) (l : List CK) (y : A) : A := @List.rec H3 (fun _ => A) y (fun h r ih => ckA l h r.length ih) hs
noncomputable def ckT (hs : List H3) (l : List CK) (y : A) : A := @List.rec CK (fun _ => A) y (fun _ _ _ => ckO hs l y) l
noncomputable def endD (nx : Kt) : Kd := fun _ cs hs cl t h n => ckT hs cs (ifA (Nat.ble n 8388608) (nx cl t h n) .no)
noncomputable def drK (a : Kd → Kd) (nx : Kt) : Kt := fun cl t h n => a (endD nx) n [] [h] cl t h n
/-! code -/
noncomputable def noK : Kt := fun _ _ _ _ => .no
noncomputable def cdK (g : G3) (a b : Kt) : Kt := fun cl t h n => g t fun v => cB v fun x => ifA x (a cl t h n) (b cl t h n)
noncomputable def ifK : Bool → Kt → Kt → Kt := @Bool.rec (fun _ => Kt → Kt → Kt) (fun _ n => n) (fun y _ => y)
noncomputable def exU (ex : Nat → Kt) (id : Nat) (nx : Kt) : Nat → Kt := fun j => ifK (Nat.beq j id) nx (ex j)
noncomputable def loopK (a : Kt → (Nat → Kt) → Kt → Kt) (ex : Nat → Kt) (rt : Kt) (m : Nat) : Kt := @Nat.rec (fun _ => Kt) noK (fun _ ih => a ih ex rt) m
noncomputable def sqK (a b : Kt → (Nat → Kt) → Kt → Kt) : Kt → (Nat → Kt) → Kt → Kt := fun nx ex rt => a (b nx ex rt) ex rt
/-! a range over a function -/
noncomputable def cSt (v : RV) (nx : A) (ex : Nat → A) (rt : A) : A := @RV.rec (fun _ => A → (Nat → A) → A → A) (fun _ _ _ => .no) (fun _ _ _ => .no) (fun x nx _ _ => ifA x .no nx) (fun _ _ _ _ _ => .no) (fun _ _ _ _ _ => .no) (fun _ _ _ _ => .no) (fun _ _ _ => .no) (fun b _ _ ex _ => ex b) (fun _ _ _ => .no) (fun _ _ _ _ _ _ _ => .no) (fun _ _ _ _ _ _ _ => .no) (fun _ _ _ _ _ => .no) (fun _ _ _ => .no) (fun _ _ _ _ _ _ => .no) (fun _ _ rt => rt) (fun _ _ _ _ _ _ _ => .no) (fun _ _ _ _ _ => .no) (fun _ _ _ _ _ => .no) (fun _ _ _ _ => .no) v nx ex rt
noncomputable def noF2 : C3 → Nat → A := fun _ _ => .no
noncomputable def rfEnd3 (b : Nat) (t : F3) (nx : Kt) (ex : Nat → Kt) (rt : Kt) (cl : Cl3) : KV := fun _ h n => hget h b fun bk => bk .no (fun c => hupd h b (fun _ f => f noB) fun h => cget c 0 fun v => cF v fun _ s => cSt s (nx cl t h n) (fun id => ex id cl t h n) (rt cl t h n)) noF2
noncomputable def rfK (fl : Nat) (g c : G3) (key : Nat) : Kt → (Nat → Kt) → Kt → Kt := fun nx ex rt cl t h n => g t fun gv => cF gv fun f q => ifA (Nat.ble BND f) .no (c t fun vs => ifA (Nat.ble fl n)
  (lay3 (.cons .np vs) ce3 0 fun cs _ => cupd cs 0 (fun _ g => g (.fn key (.b false))) fun cs => hupd h n (fun _ f => f (mpB cs)) fun h => frc (Nat.succ n) fun m => frc (Nat.add 33554432 key) fun fk => cl f (.cons (.fn fk (.cons (.mp n) .nil)) q) h m (rfEnd3 n t nx ex rt cl)) .no)
noncomputable def codew (ys : Ys) (fl : Nat) (c : RC) : Cw := @RC.rec (fun _ => Cw) (.mk (fun nx _ _ => nx))
  (fun l => @Lw'.rec F3 H3 (fun _ => Cw) (fun a => .mk (fun nx _ _ => a nx)) .no (lw ys fl l)) (fun l => @Dv'.rec F3 H3 (fun _ => Cw) (fun a => .mk (fun nx _ _ => drK a nx)) .no (dw ys fl l))
  (fun _ _ fa fb => @Cw'.rec F3 H3 (fun _ => Cw) (fun a => @Cw'.rec F3 H3 (fun _ => Cw) (fun b => .mk (sqK a b)) .no fb) .no fa)
  (fun c _ _ fa fb => @Gw.rec (fun _ => Cw) (fun g => @Cw'.rec F3 H3 (fun _ => Cw) (fun a => @Cw'.rec F3 H3 (fun _ => Cw) (fun b => .mk (fun nx ex rt => cdK g (a nx ex rt) (b nx ex rt))) .no fb) .no fa) (ropW c))
  (fun id _ fa => @Cw'.rec F3 H3 (fun _ => Cw) (fun a => .mk (fun nx ex rt => a nx (exU ex id nx) rt)) .no fa)
  (fun _ fa => @Cw'.rec F3 H3 (fun _ => Cw) (fun a => .mk (fun _ ex rt => loopK a ex rt 1048576)) .no fa)
  (fun id => .mk (fun _ ex _ => ex id)) (.mk (fun _ _ rt => rt)) (fun g key sv => @Gw.rec (fun _ => Cw) (fun g => @Gw.rec (fun _ => Cw) (fun c => .mk (rfK fl g c key)) (evw (sv.map RO.t))) (ropW g)) c
/-! calls -/
noncomputable def argZ (s : S3) (z : RV → F3 → (F3 → A) → A) : RV → F3 → (F3 → A) → A := fun a t k => cN a fun x r => s t x fun t => z r t k
noncomputable def argE : RV → F3 → (F3 → A) → A := fun a t k => cNn a (k t) (fun _ _ => .no)
noncomputable def argW : Nat → Nat → Zw := @Nat.rec (fun _ => Nat → Zw) (fun _ => .mk argE) (fun _ ih i => @Sw.rec (fun _ => Zw) (fun s => @Zw'.rec F3 (fun _ => Zw) (fun z => .mk (argZ s z)) (ih (Nat.succ i))) (setK i))
noncomputable def rsT (g : G3) (r : F3 → H3 → (RV → A) → A) : F3 → H3 → (RV → A) → A := fun t h k => g t fun v => cU v (r t h fun c => k (.cons v c))
noncomputable def rsC (g : G3) (ag : Bool) (m : Nat) (r : F3 → H3 → (RV → A) → A) : F3 → H3 → (RV → A) → A := fun t h k => g t fun p => cP p fun b o => hget h b fun bk => bk .no noM fun c _ => rdA ag m c o fun v => r t h fun c => k (.cons v c)
noncomputable def resW (l : List RS) : Rw := @List.rec RS (fun _ => Rw) (.mk (fun _ _ k => k .nil)) (fun x _ ih => @Rw'.rec F3 H3 (fun _ => Rw) (fun r => @RS.rec (fun _ => Rw) (fun p => @Gw.rec (fun _ => Rw) (fun g => .mk (rsT g r)) (getK (Nat.sub (Pa.val p) 1))) (fun p ag m => @Gw.rec (fun _ => Rw) (fun g => .mk (rsC g ag m r)) (getK (Nat.sub (Pa.val p) 1))) x) ih) l
noncomputable def retK (r : F3 → H3 → (RV → A) → A) (k : KV) : Kt := fun _ t h n => r t h fun c => cNn c (k (.tup .nil) h n) (fun a q => cNn q (cU a (k a h n)) (fun b q => k (.tup (.cons a (.cons b q))) h n))
noncomputable def bodyK (z : RV → F3 → (F3 → A) → A) (c : Kt → (Nat → Kt) → Kt → Kt) (r : F3 → H3 → (RV → A) → A) : Cl3 → RV → H3 → Nat → KV → A := fun cl a h n k => z a f0 fun t => c (retK r k) (fun _ => noK) (retK r k) cl t h n
/-! a round -/
noncomputable def slZ (l : List Pa) : Zw := @List.rec Pa (fun _ => Zw) (.mk argE) (fun p _ ih => @Sw.rec (fun _ => Zw) (fun s => @Zw'.rec F3 (fun _ => Zw) (fun z => .mk (argZ s z)) ih) (setK (Nat.sub (Pa.val p) 1))) l
/-- a record set that stands so -/
noncomputable def recS (key b : Nat) (is : Bool) (st : RV) (h : H3) (k : H3 → A) : A := hupd h b (fun bk f => bk .no (fun c => cget c 0 fun v => cF v fun q s => ifA (Nat.beq q key) (cB s fun busy => ifA (eqB busy is) (cupd c 0 (fun _ g => g (.fn key st)) fun c => f (mpB c)) .no) .no) noF2) k
noncomputable def rndK (key b : Nat) (st : RV) (ans : Bool) (k : KV) : Kt := fun _ _ h n => recS key b true st h fun h => k (.b ans) h n
noncomputable def rndB (fl key nv : Nat) (zs zp : RV → F3 → (F3 → A) → A) (A0 B0 : Kt → (Nat → Kt) → Kt → Kt) : Cl3 → RV → H3 → Nat → KV → A := fun cl a h n k => cN a fun y xs => cMp y fun b => ifA (Nat.ble fl b) (hget h b fun bk => bk .no (fun c => cget c 0 fun v => cF v fun q _ => ifA (Nat.beq q key) (rd3 nv c 1 fun vs => zs vs f0 fun t => zp xs t fun t =>
  A0 (fun cl t h n => recS key b false (.b true) h fun h => B0 (rndK key b (.b false) true k) (fun id => rndK key b (.p id 0) false k) (rndK key b .nil false k) cl t h n) (fun _ => noK) noK cl t h n) .no) noF2) .no
noncomputable def bw (ys : Ys) (fl : Nat) (f : RF) : Bw := @RF.rec (fun _ => Bw) (fun np b rs => @Zw'.rec F3 (fun _ => Bw) (fun z => @Rw'.rec F3 H3 (fun _ => Bw) (fun r => @Cw'.rec F3 H3 (fun _ => Bw) (fun c => .mk (bodyK z c r)) .no (codew ys fl b)) (resW rs)) (argW np 0))
  (fun key nv sv ps a b => @Zw'.rec F3 (fun _ => Bw) (fun zs => @Zw'.rec F3 (fun _ => Bw) (fun zp => @Cw'.rec F3 H3 (fun _ => Bw) (fun A0 => @Cw'.rec F3 H3 (fun _ => Bw) (fun B0 => .mk (rndB fl key nv zs zp A0 B0)) .no (codew ys fl b)) .no (codew ys fl a)) (slZ ps)) (slZ sv)) f
noncomputable def bwO (ys : Ys) (fl : Nat) (o : Option RF) : Bw := @Option.rec RF (fun _ => Bw) .no (bw ys fl) o
/-- calls, some known beforehand, some by a table that lies as it lay -/
noncomputable def cOQ : Option (Nat × RV) → A → (Nat → RV → A) → A := @Option.rec (Nat × RV) (fun _ => A → (Nat → RV → A) → A) (fun n _ => n) (fun x _ k => k x.1 x.2)
noncomputable def kc3 (h : H3) (n z : Nat) (ch : RV) (k : KV) : A := hget h 0 fun bk => bk .no noM fun c _ => rd3 z c 0 fun r => ifA (eqV r ch) (k (.b true) h n) .no
noncomputable def call3 (ys : Ys) (fl : Nat) (fs : Nat → Option RF) (orc : Nat → RV → Option RV) (kc : Nat → RV → Option (Nat × RV)) (deep : Nat) : Cl3 :=
  @Nat.rec (fun _ => Cl3) (fun _ _ _ _ _ => .no) (fun _ ih f a h n k => cOQ (kc f a) (cOV (orc f a) (@Bw'.rec H3 (fun _ => Cl3 → RV → H3 → Nat → KV → A) (fun b => b) (fun _ _ _ _ _ => .no) (bwO ys fl (fs f)) ih a h n k) (fun v => k v h n)) fun z ch => kc3 h n z ch k) deep
noncomputable def isT : KV := fun v _ _ => cB v fun x => ifA x .yes .no
end
end Go.Rn
