/-
  One text of a symbolic evaluator over the model, shown sound once for every program: no statement is claimed here.
-/
import Derived.Test.YtendogjdmabknaaRnA
namespace Go.Rn
abbrev CT := T RV
abbrev FT := T RV
abbrev HT := T RB
/-- from here on: functions with a receiver, which is the first that they captured -/
abbrev BND : Nat := 16777216
inductive RO where | t (p : Pa) | c (v : RV)
/-- a method of a type: the type, the function, the receiver's place in the value (none: the whole) -/
inductive IvE where | e (ty f : Nat) (st g : Bool) (off m : Nat)
inductive RP where
  | mv (x : RO) | pick (c a b : RO) | al (z : RV) | bx (x : RO)
  | bd (z : RV) (ps : List (Nat × Nat × RO)) | bs (z : RV) (len : Nat) (ps : List (Nat × Nat × RO))
  | ld (g : Bool) (n : Nat) (a : RO) | st (n : Nat) (a v : RO) | nc (x : RO)
  | bn (op : BinOp) (x y : RO) | bq (neg : Bool) (x y : RO) | nq (kd : Nat) (neg : Bool) (x y : RO)
  | ng (x : RO) | nt (x : RO) | cv (k : IntKind) (x : RO) | mf (f : Nat) (cs : List RO)
  | ms (z : RV) (l c : RO)
  | sc (es : Nat) (x : RO) (lo hi mx : Option RO) | ss (x : RO) (lo hi : Option RO) | sa (n es : Nat) (x : RO) (lo hi : Option RO)
  | fa (off : Nat) (x : RO) | fd (g : Bool) (off n : Nat) (x : RO) | ia (es : Nat) (x i : RO) | ip (n es : Nat) (x i : RO) | ix (g : Bool) (n es : Nat) (x i : RO) | sx (x i : RO)
  | ex (k : Nat) (x : RO) | cl (f : Nat) (as : List RO) | cf (x : RO) (as : List RO)
  | ln (st : Bool) (x : RO) | cp (x : RO) | ap (es : Nat) (x y : RO) | cy (es : Nat) (x y : RO) | mm (mx : Bool) (x y : RO)
  | cr (z : RV) (x : RO) | se (ks : List Nat) (neg : Bool) (x y : RO)
  | mk | mi (q : Nat) (m k x : RO) | ml (q : Nat) (z : RV) (two : Bool) (m k : RO) | fg
  | az (es : Nat) (z : RV) (x y : RO)
  | ta (ty : Nat) (z : RV) (two : Bool) (x : RO) | iv (tab : List IvE) (x : RO) (as : List RO)
/-- the result of an operation -/
inductive SR where | ok (v : RV) (h : HT) (n : Nat) | bad (l : List Nat)
inductive D where | no | d (p : Pa)
inductive G where | no | g (p : Pa) (w : Bool)
/-- how an operation of a drawn region is held: as elsewhere; loading what was there before the region; that, and the same whatever of the region has been done; turning memory -/
inductive K3 where | nm | lm | ck (p q : Nat) | ef
inductive RQ where | q (d : D) (g : G) (k : K3) (o : RP)
inductive RC where | sk | rg (l : List RQ) | dr (l : List RQ) | sq (a b : RC) | cd (c : RO) (a b : RC) | bl (id : Nat) (a : RC) | lp (a : RC) | ex (id : Nat) | rt | rf (g : RO) (key : Nat) (sv : List Pa)
inductive BR where | nx (t : FT) (h : HT) (n : Nat) | ex (id : Nat) (t : FT) (h : HT) (n : Nat) | rt (t : FT) (h : HT) (n : Nat) | bad (l : List Nat)
inductive RS where | t (p : Pa) | c (p : Pa) (g : Bool) (n : Nat)
inductive RF where | f (np : Nat) (body : RC) (rs : List RS) | r (key nv : Nat) (sv ps : List Pa) (asg body : RC)
noncomputable section
/-- cells of a block, slots of a frame, blocks -/
def ce : CT := .e
def te : FT := .e
def he : HT := .e
def cg (c : CT) (k : Nat) : RV := T.get .un c (Nat.succ k)
def cst (c : CT) (x : RV) (k : Nat) : CT := T.set .un c x (Nat.succ k)
def tg (t : FT) (p : Pa) : RV := T.getP .un t p
def tst (t : FT) (x : RV) (p : Pa) : FT := T.setP .un t x p
def hg (h : HT) (b : Nat) : RB := T.get .no h (Nat.succ b)
def hst (h : HT) (x : RB) (b : Nat) : HT := T.set .no h x (Nat.succ b)
variable {α : Type}
/-! ways by a value's kind: what is not of the kind goes to 'd' -/
def gB (d : α) (v : RV) (k : Bool → α) : α := @RV.rec (fun _ => α → (Bool → α) → α) (fun d _ => d) (fun d _ => d) (fun x _ k => k x) (fun _ _ d _ => d) (fun _ _ d _ => d) (fun _ d _ => d) (fun d _ => d) (fun _ _ d _ => d) (fun d _ => d) (fun _ _ _ _ d _ => d) (fun _ _ _ _ d _ => d) (fun _ _ d _ => d) (fun d _ => d) (fun _ _ _ d _ => d) (fun d _ => d) (fun _ _ _ _ d _ => d) (fun _ _ d _ => d) (fun _ _ d _ => d) (fun _ d _ => d) v d k
def gI (d : α) (v : RV) (k : IntKind → Int → α) : α := @RV.rec (fun _ => α → (IntKind → Int → α) → α) (fun d _ => d) (fun d _ => d) (fun _ d _ => d) (fun j x _ k => k j x) (fun _ _ d _ => d) (fun _ d _ => d) (fun d _ => d) (fun _ _ d _ => d) (fun d _ => d) (fun _ _ _ _ d _ => d) (fun _ _ _ _ d _ => d) (fun _ _ d _ => d) (fun d _ => d) (fun _ _ _ d _ => d) (fun d _ => d) (fun _ _ _ _ d _ => d) (fun _ _ d _ => d) (fun _ _ d _ => d) (fun _ d _ => d) v d k
def gY (d : α) (v : RV) (k : IntKind → SE → α) : α := @RV.rec (fun _ => α → (IntKind → SE → α) → α) (fun d _ => d) (fun d _ => d) (fun _ d _ => d) (fun j x _ k => k j (.c x)) (fun j x _ k => k j x) (fun _ d _ => d) (fun d _ => d) (fun _ _ d _ => d) (fun d _ => d) (fun _ _ _ _ d _ => d) (fun _ _ _ _ d _ => d) (fun _ _ d _ => d) (fun d _ => d) (fun _ _ _ d _ => d) (fun d _ => d) (fun _ _ _ _ d _ => d) (fun _ _ d _ => d) (fun _ _ d _ => d) (fun _ d _ => d) v d k
def gS (d : α) (v : RV) (k : List Nat → α) : α := @RV.rec (fun _ => α → (List Nat → α) → α) (fun d _ => d) (fun d _ => d) (fun _ d _ => d) (fun _ _ d _ => d) (fun _ _ d _ => d) (fun l _ k => k l) (fun d _ => d) (fun _ _ d _ => d) (fun d _ => d) (fun _ _ _ _ d _ => d) (fun _ _ _ _ d _ => d) (fun _ _ d _ => d) (fun d _ => d) (fun _ _ _ d _ => d) (fun d _ => d) (fun _ _ _ _ d _ => d) (fun _ _ d _ => d) (fun _ _ d _ => d) (fun _ d _ => d) v d k
def gP (d : α) (v : RV) (k : Nat → Nat → α) : α := @RV.rec (fun _ => α → (Nat → Nat → α) → α) (fun d _ => d) (fun d _ => d) (fun _ d _ => d) (fun _ _ d _ => d) (fun _ _ d _ => d) (fun _ d _ => d) (fun d _ => d) (fun b o _ k => k b o) (fun d _ => d) (fun _ _ _ _ d _ => d) (fun _ _ _ _ d _ => d) (fun _ _ d _ => d) (fun d _ => d) (fun _ _ _ d _ => d) (fun d _ => d) (fun _ _ _ _ d _ => d) (fun _ _ d _ => d) (fun _ _ d _ => d) (fun _ d _ => d) v d k
def gF (d : α) (v : RV) (k : Nat → RV → α) : α := @RV.rec (fun _ => α → (Nat → RV → α) → α) (fun d _ => d) (fun d _ => d) (fun _ d _ => d) (fun _ _ d _ => d) (fun _ _ d _ => d) (fun _ d _ => d) (fun d _ => d) (fun _ _ d _ => d) (fun d _ => d) (fun _ _ _ _ d _ => d) (fun _ _ _ _ d _ => d) (fun _ _ d _ => d) (fun d _ => d) (fun f c _ _ k => k f c) (fun d _ => d) (fun _ _ _ _ d _ => d) (fun _ _ d _ => d) (fun _ _ d _ => d) (fun _ d _ => d) v d k
def gA (d : α) (v : RV) (k : RV → α) : α := @RV.rec (fun _ => α → (RV → α) → α) (fun d _ => d) (fun d _ => d) (fun _ d _ => d) (fun _ _ d _ => d) (fun _ _ d _ => d) (fun _ d _ => d) (fun d _ => d) (fun _ _ d _ => d) (fun d _ => d) (fun _ _ _ _ d _ => d) (fun _ _ _ _ d _ => d) (fun _ _ d _ => d) (fun d _ => d) (fun _ _ _ d _ => d) (fun d _ => d) (fun _ _ _ _ d _ => d) (fun c _ _ k => k c) (fun _ _ d _ => d) (fun _ d _ => d) v d k
def gT (d : α) (v : RV) (k : RV → α) : α := @RV.rec (fun _ => α → (RV → α) → α) (fun d _ => d) (fun d _ => d) (fun _ d _ => d) (fun _ _ d _ => d) (fun _ _ d _ => d) (fun _ d _ => d) (fun d _ => d) (fun _ _ d _ => d) (fun d _ => d) (fun _ _ _ _ d _ => d) (fun _ _ _ _ d _ => d) (fun _ _ d _ => d) (fun d _ => d) (fun _ _ _ d _ => d) (fun d _ => d) (fun _ _ _ _ d _ => d) (fun _ _ d _ => d) (fun c _ _ k => k c) (fun _ d _ => d) v d k
/-- a map -/
def gM (d : α) (v : RV) (k : Nat → α) : α := @RV.rec (fun _ => α → (Nat → α) → α) (fun d _ => d) (fun d _ => d) (fun _ d _ => d) (fun _ _ d _ => d) (fun _ _ d _ => d) (fun _ d _ => d) (fun d _ => d) (fun _ _ d _ => d) (fun d _ => d) (fun _ _ _ _ d _ => d) (fun _ _ _ _ d _ => d) (fun _ _ d _ => d) (fun d _ => d) (fun _ _ _ d _ => d) (fun d _ => d) (fun _ _ _ _ d _ => d) (fun _ _ d _ => d) (fun _ _ d _ => d) (fun x _ k => k x) v d k
/-- what is known of a value, rebuilt; nothing known: 'd' -/
def nU (d : α) (v : RV) (k : RV → α) : α := @RV.rec (fun _ => α → (RV → α) → α) (fun d _ => d) (fun _ k => k .ud) (fun x _ k => k (.b x)) (fun j x _ k => k (.i j x)) (fun j x _ k => k (.y j x)) (fun l _ k => k (.s l)) (fun _ k => k .np) (fun b o _ k => k (.p b o)) (fun _ k => k .ns) (fun b o l c _ k => k (.sl b o l c)) (fun b o l e _ k => k (.su b o l e)) (fun b e _ k => k (.sx b e)) (fun _ k => k .nf) (fun f c _ _ k => k (.fn f c)) (fun _ k => k .nil) (fun h t _ _ _ k => k (.cons h t)) (fun c _ _ k => k (.agg c)) (fun c _ _ k => k (.tup c)) (fun x _ k => k (.mp x)) v d k
/-- the cells of a value -/
def gC (d : α) (v : RV) (k : RV → α) : α := @RV.rec (fun _ => α → (RV → α) → α) (fun d _ => d) (fun d _ => d) (fun x _ k => k (.cons (.b x) .nil)) (fun j x _ k => k (.cons (.i j x) .nil)) (fun j x _ k => k (.cons (.y j x) .nil)) (fun l _ k => k (.cons (.s l) .nil)) (fun _ k => k (.cons .np .nil)) (fun b o _ k => k (.cons (.p b o) .nil)) (fun _ k => k (.cons .ns .nil)) (fun b o l c _ k => k (.cons (.sl b o l c) .nil)) (fun b o l e _ k => k (.cons (.su b o l e) .nil)) (fun b e _ k => k (.cons (.sx b e) .nil)) (fun _ k => k (.cons .nf .nil)) (fun f c _ _ k => k (.cons (.fn f c) .nil)) (fun d _ => d) (fun _ _ _ _ d _ => d) (fun c _ _ k => k c) (fun _ _ d _ => d) (fun x _ k => k (.cons (.mp x) .nil)) v d k
/-- a slice: nil | cap known | cap open | empty, lying somewhere in a row -/
def gL (d : α) (v : RV) (k0 : α) (k1 : Nat → Nat → Nat → Nat → α) (k2 : Nat → Nat → Nat → Nat → α) (k3 : Nat → Nat → α) : α := @RV.rec (fun _ => α → α → (Nat → Nat → Nat → Nat → α) → (Nat → Nat → Nat → Nat → α) → (Nat → Nat → α) → α) (fun d _ _ _ _ => d) (fun d _ _ _ _ => d) (fun _ d _ _ _ _ => d) (fun _ _ d _ _ _ _ => d) (fun _ _ d _ _ _ _ => d) (fun _ d _ _ _ _ => d) (fun d _ _ _ _ => d) (fun _ _ d _ _ _ _ => d) (fun _ k0 _ _ _ => k0) (fun b o l c _ _ k1 _ _ => k1 b o l c) (fun b o l e _ _ _ k2 _ => k2 b o l e) (fun b e _ _ _ _ k3 => k3 b e) (fun d _ _ _ _ => d) (fun _ _ _ d _ _ _ _ => d) (fun d _ _ _ _ => d) (fun _ _ _ _ d _ _ _ _ => d) (fun _ _ d _ _ _ _ => d) (fun _ _ d _ _ _ _ => d) (fun _ d _ _ _ _ => d) v d k0 k1 k2 k3
/-- a chain -/
def gN (d : α) (v : RV) (k0 : α) (k1 : RV → RV → α) : α := @RV.rec (fun _ => α → α → (RV → RV → α) → α) (fun d _ _ => d) (fun d _ _ => d) (fun _ d _ _ => d) (fun _ _ d _ _ => d) (fun _ _ d _ _ => d) (fun _ d _ _ => d) (fun d _ _ => d) (fun _ _ d _ _ => d) (fun d _ _ => d) (fun _ _ _ _ d _ _ => d) (fun _ _ _ _ d _ _ => d) (fun _ _ d _ _ => d) (fun d _ _ => d) (fun _ _ _ d _ _ => d) (fun _ k0 _ => k0) (fun h t _ _ _ _ k1 => k1 h t) (fun _ _ d _ _ => d) (fun _ _ d _ _ => d) (fun _ d _ _ => d) v d k0 k1
def gO {β : Type} (d : α) (v : Option β) (k : β → α) : α := @Option.rec β (fun _ => α → (β → α) → α) (fun d _ => d) (fun x _ k => k x) v d k
def bf (c : Bool) (y n : α) : α := @Bool.rec (fun _ => α → α → α) (fun _ n => n) (fun y _ => y) c y n
/-- a block of this size stands for a map -/
def MAPZ : Nat := 1099511627776
def gK (d : α) (v : RB) (k : CT → Nat → α) : α := @RB.rec (fun _ => α → (CT → Nat → α) → α) (fun d _ => d) (fun c z d k => bf (Nat.beq z MAPZ) d (k c z)) v d k
def fT {β : Type} (t : T β) (k : T β → α) : α := @T.rec β (fun _ => (T β → α) → α) (fun k => k .e) (fun l v r _ _ k => k (.n l v r)) t k
def gR (r : SR) (k : RV → HT → Nat → SR) : SR := @SR.rec (fun _ => (RV → HT → Nat → SR) → SR) (fun v h n k => k v h n) (fun l _ => .bad l) r k
/-- an operand -/
def ev (t : FT) (o : RO) : RV := @RO.rec (fun _ => FT → RV) (fun p t => tg t p) (fun v _ => v) o t
def mkI (k : IntKind) (n : Int) : RV := @Int.rec (fun _ => IntKind → RV) (fun m k => @Nat.rec (fun _ => RV) (.i k (.ofNat 0)) (fun q _ => .i k (.ofNat (Nat.succ q))) m) (fun m k => @Nat.rec (fun _ => RV) (.i k (.negSucc 0)) (fun q _ => .i k (.negSucc (Nat.succ q))) m) n k
/-- a number as it is if it is small, else wrapped -/
def small (n : Int) : Bool := @Int.rec (fun _ => Bool) (fun m => Nat.ble m 9223372036854775807) (fun m => Nat.ble m 9223372036854775807) n
def is64 (k : IntKind) : Bool := @IntKind.rec (fun _ => Bool) false false false true false false false false k
def wrapI (k : IntKind) (n : Int) : RV := bf (is64 k) (bf (small n) (mkI .i64 n) (mkI .i64 (IntKind.wrap .i64 n))) (mkI k (IntKind.wrap k n))
def nonI (a : Int) : Bool := @Int.rec (fun _ => Bool) (fun _ => true) (fun _ => false) a
def ltI (a b : Int) : Bool := @Int.rec (fun _ => Bool) (fun _ => false) (fun _ => true) (Int.sub a b)
def eqI (a b : Int) : Bool := @Int.rec (fun _ => Int → Bool) (fun m b => @Int.rec (fun _ => Nat → Bool) (fun n m => Nat.beq m n) (fun _ _ => false) b m) (fun m b => @Int.rec (fun _ => Nat → Bool) (fun _ _ => false) (fun n m => Nat.beq m n) b m) a b
def natI (a : Int) : Nat := @Int.rec (fun _ => Nat) (fun m => m) (fun _ => 0) a
def notB (b : Bool) : Bool := @Bool.rec (fun _ => Bool) true false b
def eqB (a b : Bool) : Bool := bf a b (notB b)
def mkB (b : Bool) : RV := @Bool.rec (fun _ => RV) (.b false) (.b true) b
def eqL (a : List Nat) : List Nat → Bool := @List.rec Nat (fun _ => List Nat → Bool) (fun b => @List.rec Nat (fun _ => Bool) true (fun _ _ _ => false) b)
  (fun x _ ih b => @List.rec Nat (fun _ => Bool) false (fun y r _ => bf (Nat.beq x y) (ih r) false) b) a
def ltL (a : List Nat) : List Nat → Bool := @List.rec Nat (fun _ => List Nat → Bool) (fun b => @List.rec Nat (fun _ => Bool) false (fun _ _ _ => true) b)
  (fun x _ ih b => @List.rec Nat (fun _ => Bool) false (fun y r _ => bf (Nat.ble (Nat.succ x) y) true (bf (Nat.beq x y) (ih r) false)) b) a
/-- two numbers -/
def arAnd (f : Nat → Nat → Nat) (k : IntKind) (a b : Int) : RV := bf (nonI a) (bf (nonI b) (mkI k (IntKind.wrap k (Int.ofNat (f (natI a) (natI b))))) .un) .un
def arI (op : BinOp) : IntKind → Int → Int → RV := @BinOp.rec (fun _ => IntKind → Int → Int → RV)
  (fun k a b => wrapI k (Int.add a b)) (fun k a b => wrapI k (Int.sub a b)) (fun k a b => wrapI k (Int.mul a b))
  (fun k a b => bf (eqI b 0) .un (wrapI k (Int.tdiv a b))) (fun k a b => bf (eqI b 0) .un (mkI k (Int.tmod a b)))
  (fun k a b => arAnd Nat.land k a b) (fun k a b => arAnd Nat.lor k a b) (fun k a b => arAnd Nat.xor k a b)
  (fun _ _ _ => .un) (fun _ _ _ => .un) (fun k a b => mkI k (IntKind.wrap k (Int.ofNat (BitVec.toNat (BitVec.ofInt (IntKind.bits k) a &&& ~~~ BitVec.ofInt (IntKind.bits k) b)))))
  (fun _ a b => mkB (eqI a b)) (fun _ a b => mkB (notB (eqI a b))) (fun _ a b => mkB (ltI a b)) (fun _ a b => mkB (notB (ltI b a))) (fun _ a b => mkB (ltI b a)) (fun _ a b => mkB (notB (ltI a b))) op
/-- shifts -/
def shI (op : BinOp) (k : IntKind) (a b : Int) : RV := bf (nonI a) (bf (nonI b) (bf (Nat.ble (natI b) (IntKind.bits k)) (@BinOp.rec (fun _ => IntKind → Nat → Nat → RV)
  (fun _ _ _ => .un) (fun _ _ _ => .un) (fun _ _ _ => .un) (fun _ _ _ => .un) (fun _ _ _ => .un) (fun _ _ _ => .un) (fun _ _ _ => .un) (fun _ _ _ => .un)
  (fun k a b => mkI k (IntKind.wrap k (Int.ofNat (Nat.mul a (Nat.pow 2 b))))) (fun k a b => mkI k (Int.ofNat (Nat.div a (Nat.pow 2 b))))
  (fun _ _ _ => .un) (fun _ _ _ => .un) (fun _ _ _ => .un) (fun _ _ _ => .un) (fun _ _ _ => .un) (fun _ _ _ => .un) (fun _ _ _ => .un) op k (natI a) (natI b)) .un) .un) .un
def isSh (op : BinOp) : Bool := @BinOp.rec (fun _ => Bool) false false false false false false false false true true false false false false false false false op
def kN (k : IntKind) : Nat := @IntKind.rec (fun _ => Nat) 0 1 2 3 4 5 6 7 k
def eqK (a b : IntKind) : Bool := Nat.beq (kN a) (kN b)
/-- are two sums spelled alike? -/
def eqS (a : SE) : SE → Bool := @SE.rec (fun _ => SE → Bool)
  (fun n b => match b with | .v m => Nat.beq n m | _ => false) (fun z b => match b with | .c y => eqI z y | _ => false)
  (fun k _ _ f g b => match b with | .add j x y => bf (eqK k j) (bf (f x) (g y) false) false | _ => false)
  (fun k _ _ f g b => match b with | .sub j x y => bf (eqK k j) (bf (f x) (g y) false) false | _ => false)
  (fun k _ _ f g b => match b with | .mul j x y => bf (eqK k j) (bf (f x) (g y) false) false | _ => false) a
/-- two sums; 'ys': what is known of letters -/
def cmY (ys : BinOp → SE → SE → Option Bool) (op : BinOp) (r : Bool) (a b : SE) : RV := match ys op a b with
  | some x => .b x
  | none => bf (eqS a b) (.b r) .un
def andY (o : Option Bool) (k : IntKind) : RV := match o, k with | some x, .i64 => .i .i64 (bf x 1 0) | _, _ => .un
def arY (ys : BinOp → SE → SE → Option Bool) (op : BinOp) (k : IntKind) (a b : SE) : RV :=
  match op with
  | .add => .y k (.add k a b)
  | .mul => .y k (.mul k a b)
  | .sub => bf (eqS a b) (.i k 0) (.y k (.sub k a b))
  | .and => andY (ys .and a b) k
  | .eql => cmY ys .eql true a b | .neq => cmY ys .neq false a b | .lss => cmY ys .lss false a b | .leq => cmY ys .leq true a b | .gtr => cmY ys .gtr false a b | .geq => cmY ys .geq true a b
  | _ => .un
def binS (op : BinOp) (l r : List Nat) : RV := match op with
  | .add => bf (Nat.ble (Nat.add l.length r.length) 1099511627776) (.s (l ++ r)) .un
  | .eql => mkB (eqL l r)
  | .neq => mkB (notB (eqL l r))
  | .lss => mkB (ltL l r)
  | _ => .un
def binY (ys : BinOp → SE → SE → Option Bool) (op : BinOp) (a b : RV) : RV := gY .un a fun k x => gY .un b fun j y => bf (isSh op) .un (bf (eqK k j) (arY ys op k x y) .un)
def binII (op : BinOp) (k j : IntKind) (x y : Int) : RV := bf (isSh op) (shI op k x y) (bf (eqK k j) (arI op k x y) .un)
def binV (ys : BinOp → SE → SE → Option Bool) (op : BinOp) (a b : RV) : RV :=
  gI (gS (binY ys op a b) a fun l => gS .un b fun r => binS op l r) a fun k x => gI (binY ys op a b) b fun j y => binII op k j x y
/-- chains -/
def chGet (c : RV) : Nat → RV := @RV.rec (fun _ => Nat → RV) (fun _ => .un) (fun _ => .un) (fun _ _ => .un) (fun _ _ _ => .un) (fun _ _ _ => .un) (fun _ _ => .un) (fun _ => .un) (fun _ _ _ => .un) (fun _ => .un) (fun _ _ _ _ _ => .un) (fun _ _ _ _ _ => .un) (fun _ _ _ => .un) (fun _ => .un) (fun _ _ _ _ => .un) (fun _ => .un)
  (fun x _ _ ih k => @Nat.rec (fun _ => RV) x (fun m _ => ih m) k) (fun _ _ _ => .un) (fun _ _ _ => .un) (fun _ _ => .un) c
/-- a head and a chain, both known -/
def kons (x r : RV) : RV := nU .un x fun x => nU .un r fun r => .cons x r
/-- n cells from k on -/
def chSub (c : RV) (n : Nat) : Nat → RV := @Nat.rec (fun _ => Nat → RV) (fun _ => .nil) (fun _ ih k => kons (chGet c k) (ih (Nat.succ k))) n
/-- n cells of a block from k on, as a chain -/
def rd (c : CT) (n : Nat) : Nat → RV := @Nat.rec (fun _ => Nat → RV) (fun _ => .nil) (fun _ ih k => kons (cg c k) (ih (Nat.succ k))) n
/-- a chain laid into a block from k on -/
def lay (c : RV) : CT → Nat → CT := @RV.rec (fun _ => CT → Nat → CT) (fun t _ => t) (fun t _ => t) (fun _ t _ => t) (fun _ _ t _ => t) (fun _ _ t _ => t) (fun _ t _ => t) (fun t _ => t) (fun _ _ t _ => t) (fun t _ => t) (fun _ _ _ _ t _ => t) (fun _ _ _ _ t _ => t) (fun _ _ t _ => t) (fun t _ => t) (fun _ _ _ t _ => t) (fun t _ => t)
  (fun x _ _ ih t k => fT (cst t x k) fun t => ih t (Nat.succ k)) (fun _ _ t _ => t) (fun _ _ t _ => t) (fun _ t _ => t) c
/-- like 'lay', but over cells that are there -/
def over (c : RV) : CT → Nat → Option CT := @RV.rec (fun _ => CT → Nat → Option CT) (fun _ _ => none) (fun _ _ => none) (fun _ _ _ => none) (fun _ _ _ _ => none) (fun _ _ _ _ => none) (fun _ _ _ => none) (fun _ _ => none) (fun _ _ _ _ => none) (fun _ _ => none) (fun _ _ _ _ _ _ => none) (fun _ _ _ _ _ _ => none) (fun _ _ _ _ => none) (fun _ _ => none) (fun _ _ _ _ _ => none) (fun t _ => some t)
  (fun x _ _ ih t k => nU none (cg t k) fun _ => fT (cst t x k) fun t => ih t (Nat.succ k)) (fun _ _ _ _ => none) (fun _ _ _ _ => none) (fun _ _ _ => none) c
def chLen (c : RV) : Option Nat := @RV.rec (fun _ => Option Nat) none none (fun _ => none) (fun _ _ => none) (fun _ _ => none) (fun _ => none) none (fun _ _ => none) none (fun _ _ _ _ => none) (fun _ _ _ _ => none) (fun _ _ => none) none (fun _ _ _ => none) (some 0)
  (fun _ _ _ ih => gO none ih fun n => some (Nat.succ n)) (fun _ _ => none) (fun _ _ => none) (fun _ => none) c
def chApp (c : RV) (r : RV) : RV := @RV.rec (fun _ => RV) .un .un (fun _ => .un) (fun _ _ => .un) (fun _ _ => .un) (fun _ => .un) .un (fun _ _ => .un) .un (fun _ _ _ _ => .un) (fun _ _ _ _ => .un) (fun _ _ => .un) .un (fun _ _ _ => .un) r
  (fun x _ _ ih => nU .un ih fun q => .cons x q) (fun _ _ => .un) (fun _ _ => .un) (fun _ => .un) c
def rep (z : RV) (n : Nat) : RV := @Nat.rec (fun _ => RV) .nil (fun _ ih => chApp z ih) n
def evL (t : FT) (l : List RO) : RV := @List.rec RO (fun _ => RV) .nil (fun x _ ih => kons (ev t x) ih) l
/-- a chain with another one laid over it from k on -/
def patch (z : RV) : RV → Nat → RV := @RV.rec (fun _ => RV → Nat → RV) (fun _ _ => .un) (fun _ _ => .un) (fun _ _ _ => .un) (fun _ _ _ _ => .un) (fun _ _ _ _ => .un) (fun _ _ _ => .un) (fun _ _ => .un) (fun _ _ _ _ => .un) (fun _ _ => .un) (fun _ _ _ _ _ _ => .un) (fun _ _ _ _ _ _ => .un) (fun _ _ _ _ => .un) (fun _ _ => .un) (fun _ _ _ _ _ => .un)
  (fun p _ => gN .un p .nil fun _ _ => .un)
  (fun x _ _ ih p k => @Nat.rec (fun _ => RV) (gN .un p (kons x (ih .nil 0)) fun a r => kons a (ih r 0)) (fun m _ => kons x (ih p m)) k)
  (fun _ _ _ _ => .un) (fun _ _ _ _ => .un) (fun _ _ _ => .un) z
def fillP (t : FT) (l : List (Nat × Nat × RO)) : RV → RV := @List.rec (Nat × Nat × RO) (fun _ => RV → RV) (fun z => z)
  (fun x _ ih z => gC .un (ev t x.2.2) fun c => gO .un (chLen c) fun m => bf (Nat.beq m x.2.1) (nU .un (patch z c x.1) ih) .un) l
/-- a bound of a slice -/
def optN (t : FT) (o : Option RO) (d : Nat) : Option Nat := gO (some d) o fun x => gI none (ev t x) fun _ n => bf (nonI n) (some (natI n)) none
/-- a store into a block that is there -/
def stBlk (fl : Nat) (h : HT) (b k : Nat) (c : RV) (n : Nat) : SR :=
  bf (Nat.ble fl b) (gK (.bad [102]) (hg h b) fun cs z => gO (.bad [103]) (over c cs k) fun cs' => fT (hst h (.bk cs' z) b) fun h => .ok .ud h n) (.bad [101])
/-- a new block -/
def newBlk (h : HT) (n : Nat) (cs : CT) (z : Nat) (v : RV) : SR := bf (Nat.beq z MAPZ) (.bad [119]) (fT cs fun cs => fT (hst h (.bk cs z) n) fun h => .ok v h (Nat.succ n))
def newCh (h : HT) (n : Nat) (c : RV) (v : RV) : SR := gO (.bad [104]) (chLen c) fun z => newBlk h n (lay c ce 0) z v
def okV (v : RV) (h : HT) (n : Nat) (why : Nat) : SR := nU (.bad [why]) v fun v => .ok v h n
/-- m elements of a row, from o on -/
def rowCells (h : HT) (es b o m : Nat) : RV := bf (Nat.beq m 0) .nil (gK .un (hg h b) fun c _ => rd c (Nat.mul m es) o)
/-- the cells of a slice: so many elements from its beginning -/
def slCells (h : HT) (es : Nat) (v : RV) (m : Nat) : RV :=
  gL .un v (bf (Nat.beq m 0) .nil .un) (fun b o l _ => bf (Nat.ble m l) (rowCells h es b o m) .un) (fun b o l _ => bf (Nat.ble m l) (rowCells h es b o m) .un) (fun _ _ => bf (Nat.beq m 0) .nil .un)
def slLen (v : RV) : Option Nat := gL none v (some 0) (fun _ _ l _ => some l) (fun _ _ l _ => some l) (fun _ _ => some 0)
/-- the old cells and new ones, as a new row: by the old one's trie, where it ends just there -/
def growC (h : HT) (n es b o l : Nat) (y : RV) (m : Nat) (kill : HT) : SR :=
  nU (.bad [107]) (chApp (rowCells h es b o l) y) fun r => newBlk kill n (lay r ce 0) (Nat.mul (Nat.add l m) es) (.su n 0 (Nat.add l m) es)
def growU (h : HT) (n es b o l : Nat) (y : RV) (m : Nat) (kill : HT) : SR :=
  gK (.bad [105]) (hg h b) fun c z => bf (bf (Nat.beq o 0) (Nat.beq z (Nat.mul l es)) false) (newBlk kill n (lay y c z) (Nat.mul (Nat.add l m) es) (.su n 0 (Nat.add l m) es)) (growC h n es b o l y m kill)
/-- append of cells -/
def appC (fl es : Nat) (x : RV) (m : Nat) (y : RV) (h : HT) (n : Nat) : SR :=
  gL (.bad [115]) x (newBlk h n (lay y ce 0) (Nat.mul m es) (.su n 0 m es))
    (fun b o l c => bf (Nat.ble (Nat.add l m) c) (gR (stBlk fl h b (Nat.add o (Nat.mul l es)) y n) fun _ h n => .ok (.sl b o (Nat.add l m) c) h n)
      (bf (Nat.beq l 0) (newBlk h n (lay y ce 0) (Nat.mul m es) (.su n 0 m es)) (growC h n es b o l y m h)))
    (fun b o l e => bf (Nat.beq e es) (bf (Nat.ble fl b) (growU h n es b o l y m (hst h .no b)) (.bad [113])) (.bad [116]))
    (fun b e => bf (Nat.beq e es) (bf (Nat.ble fl b) (gK (.bad [118]) (hg h b) fun _ _ => newBlk (hst h .no b) n (lay y ce 0) (Nat.mul m es) (.su n 0 m es)) (.bad [114])) (.bad [117]))
def app (fl es : Nat) (x y : RV) (h : HT) (n : Nat) : SR := gO (.bad [110]) (slLen y) fun m =>
  bf (Nat.beq m 0) (gO (.bad [111]) (slLen x) fun _ => okV x h n 111) (bf (Nat.ble m 1048576) (nU (.bad [112]) (slCells h es y m) fun c => gO (.bad [109]) (slLen x) fun l => bf (Nat.ble l 1048576) (appC fl es x m c h n) (.bad [108])) (.bad [107]))
/-- x[lo:hi:mx] of a slice -/
def slK (es b o lo hi mx : Nat) : RV := bf (Nat.ble lo hi) (bf (Nat.ble hi mx) (bf (Nat.beq mx lo) (.sl b o (Nat.sub hi lo) (Nat.sub mx lo)) (.sl b (Nat.add o (Nat.mul lo es)) (Nat.sub hi lo) (Nat.sub mx lo))) .un) .un
def slU (es b o l lo hi : Nat) : RV := bf (Nat.ble lo hi) (bf (Nat.ble hi l) (bf (Nat.beq lo 0) (.su b o hi es) (bf (Nat.ble (Nat.succ lo) l) (.su b (Nat.add o (Nat.mul lo es)) (Nat.sub hi lo) es) (.sx b es))) .un) .un
def slV (es : Nat) (x : RV) (lo hi : Nat) (mx : Option Nat) : RV :=
  gL .un x (bf (Nat.beq lo 0) (bf (Nat.beq hi 0) (gO .ns mx fun m => bf (Nat.beq m 0) .ns .un) .un) .un)
    (fun b o _ c => gO (slK es b o lo hi c) mx fun m => bf (Nat.ble m c) (slK es b o lo hi m) .un)
    (fun b o l e => bf (Nat.beq es e) (gO (slU es b o l lo hi) mx fun m => bf (Nat.ble m l) (slK es b o lo hi m) .un) .un)
    (fun b e => bf (Nat.beq es e) (bf (Nat.beq lo 0) (bf (Nat.beq hi 0) (gO (.sx b e) mx fun _ => .un) .un) .un) .un)
/-! the operations -/
abbrev Ys := BinOp → SE → SE → Option Bool
abbrev Cl' := Nat → RV → Nat → HT → Nat → SR
abbrev St := Ys → Cl' → Nat → Nat → FT → HT → Nat → SR
def stMv (x : RO) : St := fun _ _ _ _ t h n => okV (ev t x) h n 1
def stPick (c a b : RO) : St := fun _ _ _ _ t h n => gB (.bad [3]) (ev t c) fun x => okV (bf x (ev t a) (ev t b)) h n 2
def stAl (z : RV) : St := fun _ _ _ _ _ h n => newCh h n z (.p n 0)
def stBx (x : RO) : St := fun _ _ _ _ t h n => gC (.bad [4]) (ev t x) fun c => newCh h n c (.p n 0)
def stBd (z : RV) (ps : List (Nat × Nat × RO)) : St := fun _ _ _ _ t h n => nU (.bad [5]) (fillP t ps z) fun c => .ok (.agg c) h n
def stBs (z : RV) (len : Nat) (ps : List (Nat × Nat × RO)) : St := fun _ _ _ _ t h n => nU (.bad [6]) (fillP t ps z) fun c => newCh h n c (.sl n 0 len len)
def ldC (g : Bool) (m : Nat) (cs : CT) (o : Nat) (h : HT) (n : Nat) : SR := bf g (nU (.bad [8]) (rd cs m o) fun c => .ok (.agg c) h n) (okV (cg cs o) h n 9)
def stLd (g : Bool) (m : Nat) (a : RO) : St := fun _ _ _ lim t h n => gP (.bad [10]) (ev t a) fun b o => bf (Nat.ble (Nat.succ b) lim) (gK (.bad [7]) (hg h b) fun cs _ => ldC g m cs o h n) (.bad [11])
def stSt (m : Nat) (a v : RO) : St := fun _ _ fl _ t h n => gP (.bad [13]) (ev t a) fun b o => gC (.bad [12]) (ev t v) fun c => gO (.bad [14]) (chLen c) fun q => bf (Nat.beq q m) (stBlk fl h b o c n) (.bad [15])
def stNc (x : RO) : St := fun _ _ _ _ t h n => gP (gF (.bad [16]) (ev t x) fun f c => bf (Nat.ble 33554432 f) (gN (.bad [186]) c (.bad [187]) fun _ _ => .ok (.fn f c) h n) (.ok (.fn f c) h n)) (ev t x) fun b o => .ok (.p b o) h n
def stBn (op : BinOp) (x y : RO) : St := fun ys _ _ _ t h n => okV (binV ys op (ev t x) (ev t y)) h n 17
def stBq (neg : Bool) (x y : RO) : St := fun _ _ _ _ t h n => gB (.bad [18]) (ev t x) fun a => gB (.bad [19]) (ev t y) fun b => .ok (mkB (eqB neg (notB (eqB a b)))) h n
/-- is it nil? of pointers, slices, functions -/
def isNil (x : RV) : Option (Nat × Bool) := match x with
  | .np => some (0, true) | .p _ _ => some (0, false) | .ns => some (1, true) | .sl _ _ _ _ => some (1, false) | .su _ _ _ _ => some (1, false) | .sx _ _ => some (1, false) | .nf => some (2, true) | .fn f _ => bf (Nat.ble 33554432 f) none (some (2, false)) | _ => none
def stNq (kd : Nat) (neg : Bool) (x y : RO) : St := fun _ _ _ _ t h n => gO (.bad [20]) (isNil (ev t x)) fun a => gO (.bad [21]) (isNil (ev t y)) fun b =>
  bf (bf (Nat.beq a.1 kd) (Nat.beq b.1 kd) false) (bf b.2 (.ok (mkB (eqB neg (notB a.2))) h n) (bf a.2 (.ok (mkB neg) h n) (.bad [22]))) (.bad [23])
def stNg (x : RO) : St := fun _ _ _ _ t h n => gI (gY (.bad [24]) (ev t x) fun k e => .ok (.y k (.sub k (.c 0) e)) h n) (ev t x) fun k a => okV (arI .sub k 0 a) h n 24
def stNt (x : RO) : St := fun _ _ _ _ t h n => gB (.bad [25]) (ev t x) fun a => .ok (mkB (notB a)) h n
def stCv (k : IntKind) (x : RO) : St := fun _ _ _ _ t h n => gI (.bad [26]) (ev t x) fun _ a => okV (wrapI k a) h n 26
def stMf (f : Nat) (cs : List RO) : St := fun _ _ _ _ t h n => nU (.bad [27]) (evL t cs) fun c => .ok (.fn f c) h n
def stMs (z : RV) (l c : RO) : St := fun _ _ _ _ t h n => gI (.bad [28]) (ev t l) fun j a => gI (.bad [29]) (ev t c) fun k b =>
  bf (bf (is64 j) (is64 k) false) (bf (nonI a) (bf (nonI b) (bf (Nat.ble (natI a) (natI b)) (bf (Nat.ble (natI b) 65536) (newCh h n (rep z (natI b)) (.sl n 0 (natI a) (natI b))) (.bad [30])) (.bad [31])) (.bad [32])) (.bad [33])) (.bad [34])
def stSc (es : Nat) (x : RO) (lo hi mx : Option RO) : St := fun _ _ _ _ t h n => gO (.bad [35]) (slLen (ev t x)) fun l => gO (.bad [36]) (optN t lo 0) fun a => gO (.bad [37]) (optN t hi l) fun b =>
  gO (okV (slV es (ev t x) a b none) h n 38) mx fun m => gO (.bad [39]) (optN t (some m) 0) fun m => okV (slV es (ev t x) a b (some m)) h n 38
def stSs (x : RO) (lo hi : Option RO) : St := fun _ _ _ _ t h n => gS (.bad [40]) (ev t x) fun l => gO (.bad [41]) (optN t lo 0) fun a => gO (.bad [42]) (optN t hi l.length) fun b =>
  bf (Nat.ble a b) (bf (Nat.ble b l.length) (.ok (.s ((l.take b).drop a)) h n) (.bad [43])) (.bad [44])
def stSa (k es : Nat) (x : RO) (lo hi : Option RO) : St := fun _ _ _ _ t h n => gP (.bad [45]) (ev t x) fun b o => gO (.bad [46]) (optN t lo 0) fun a => gO (.bad [47]) (optN t hi k) fun e => okV (slK es b o a e k) h n 48
def stFa (off : Nat) (x : RO) : St := fun _ _ _ _ t h n => gP (.bad [49]) (ev t x) fun b o => .ok (.p b (Nat.add o off)) h n
def partC (g : Bool) (c : RV) (off m : Nat) (h : HT) (n : Nat) : SR := bf g (nU (.bad [50]) (chSub c m off) fun r => .ok (.agg r) h n) (okV (chGet c off) h n 51)
def stFd (g : Bool) (off m : Nat) (x : RO) : St := fun _ _ _ _ t h n => gA (.bad [52]) (ev t x) fun c => partC g c off m h n
def ixN (v : RV) (l : Nat) (k : Nat → SR) : SR := gI (.bad [53]) v fun _ a => bf (nonI a) (bf (Nat.ble (Nat.succ (natI a)) l) (k (natI a)) (.bad [54])) (.bad [55])
def stIa (es : Nat) (x i : RO) : St := fun _ _ _ _ t h n => gL (.bad [56]) (ev t x) (.bad [57]) (fun b o l _ => ixN (ev t i) l fun a => .ok (.p b (Nat.add o (Nat.mul a es))) h n) (fun b o l _ => ixN (ev t i) l fun a => .ok (.p b (Nat.add o (Nat.mul a es))) h n) (fun _ _ => .bad [58])
def stIp (m es : Nat) (x i : RO) : St := fun _ _ _ _ t h n => gP (.bad [59]) (ev t x) fun b o => ixN (ev t i) m fun a => .ok (.p b (Nat.add o (Nat.mul a es))) h n
def stIx (g : Bool) (m es : Nat) (x i : RO) : St := fun _ _ _ _ t h n => gA (.bad [60]) (ev t x) fun c => ixN (ev t i) m fun a => partC g c (Nat.mul a es) es h n
def stSx (x i : RO) : St := fun _ _ _ _ t h n => gS (.bad [61]) (ev t x) fun l => ixN (ev t i) l.length fun a => gO (.bad [62]) l[a]? fun c => .ok (.i .u8 (Int.ofNat c)) h n
def stEx (k : Nat) (x : RO) : St := fun _ _ _ _ t h n => gT (.bad [63]) (ev t x) fun c => okV (chGet c k) h n 64
def stCl (f : Nat) (as : List RO) : St := fun _ cl fl _ t h n => nU (.bad [65]) (evL t as) fun c => cl f c fl h n
def stCf (x : RO) (as : List RO) : St := fun _ cl fl _ t h n => gF (.bad [66]) (ev t x) fun f c => nU (.bad [67]) (evL t as) fun a => bf (Nat.ble BND f) (gN (.bad [150]) c (.bad [151]) fun y r => bf (Nat.ble 33554432 f) (gN (.bad [153]) r (cl (Nat.sub f BND) (.cons y a) fl h n) fun _ _ => .bad [154]) (nU (.bad [152]) (chApp a r) fun q => cl (Nat.sub f BND) (.cons y q) fl h n)) (nU (.bad [68]) (chApp a c) fun r => cl f r fl h n)
def stLn (st : Bool) (x : RO) : St := fun _ _ _ _ t h n => bf st (gS (.bad [68]) (ev t x) fun l => okV (mkI .i64 (Int.ofNat l.length)) h n 69) (gO (.bad [69]) (slLen (ev t x)) fun l => okV (mkI .i64 (Int.ofNat l)) h n 69)
def stCp (x : RO) : St := fun _ _ _ _ t h n => gL (.bad [70]) (ev t x) (.ok (.i .i64 (Int.ofNat 0)) h n) (fun _ _ _ c => .ok (.i .i64 (Int.ofNat c)) h n) (fun _ _ _ _ => .bad [71]) (fun _ _ => .bad [72])
def stAp (es : Nat) (x y : RO) : St := fun _ _ fl _ t h n => app fl es (ev t x) (ev t y) h n
/-- a store over a slice's first cells -/
def stSl (fl : Nat) (x c : RV) (h : HT) (n : Nat) (v : RV) : SR := gL (.bad [73]) x (.bad [74]) (fun b o _ _ => gR (stBlk fl h b o c n) fun _ h n => okV v h n 75) (fun b o _ _ => gR (stBlk fl h b o c n) fun _ h n => okV v h n 75) (fun _ _ => .bad [76])
def stCy (es : Nat) (x y : RO) : St := fun _ _ fl _ t h n => gO (.bad [77]) (slLen (ev t x)) fun a => gO (.bad [78]) (slLen (ev t y)) fun b => bf (Nat.beq (bf (Nat.ble b a) b a) 0) (.ok (.i .i64 (Int.ofNat 0)) h n)
  (nU (.bad [79]) (slCells h es (ev t y) (bf (Nat.ble b a) b a)) fun c => stSl fl (ev t x) c h n (mkI .i64 (Int.ofNat (bf (Nat.ble b a) b a))))
def stMm (mx : Bool) (x y : RO) : St := fun _ _ _ _ t h n => gI (.bad [80]) (ev t x) fun k a => gI (.bad [81]) (ev t y) fun j b => bf (eqK k j) (okV (mkI k (bf (bf mx (ltI a b) (ltI b a)) b a)) h n 82) (.bad [83])
def stCr (z : RV) (x : RO) : St := fun _ _ fl _ t h n => gO (.bad [84]) (slLen (ev t x)) fun l => bf (Nat.beq l 0) (.ok (.tup .nil) h n) (nU (.bad [85]) (rep z l) fun c => stSl fl (ev t x) c h n (.tup .nil))
/-- are two cells of a kind alike? 0: bools, 1: numbers, else strings -/
def eqCell (ys : Ys) (k : Nat) (a b : RV) : RV := bf (Nat.beq k 0) (gB .un a fun p => gB .un b fun q => mkB (eqB p q)) (bf (Nat.beq k 1) (gY .un a fun _ _ => gY .un b fun _ _ => binV ys .eql a b) (gS .un a fun l => gS .un b fun r => mkB (eqL l r)))
def eqCh (ys : Ys) (ks : List Nat) : RV → RV → RV := @List.rec Nat (fun _ => RV → RV → RV) (fun _ _ => .b true) (fun k _ ih c d => gN .un c .un fun a r => gN .un d .un fun b q => gB .un (eqCell ys k a b) fun x => bf x (ih r q) (.b false)) ks
def stSe (ks : List Nat) (neg : Bool) (x y : RO) : St := fun ys _ _ _ t h n => gA (.bad [120]) (ev t x) fun c => gA (.bad [121]) (ev t y) fun d => gB (.bad [122]) (eqCh ys ks c d) fun r => .ok (mkB (eqB neg (notB r))) h n
/-! maps -/
def gMK (d : α) (v : RB) (k : CT → α) : α := @RB.rec (fun _ => α → (CT → α) → α) (fun d _ => d) (fun c z d k => bf (Nat.beq z MAPZ) (k c) d) v d k
def stMk : St := fun _ _ _ _ _ h n => fT (cst ce (.i .i64 (.ofNat 0)) 0) fun cs => fT (hst h (.bk cs MAPZ) n) fun h => .ok (.mp n) h (Nat.succ n)
/-- the kind of a key: 0, none; bool, string, numbers -/
def kOf (v : RV) : Nat := gB (gI (gS 0 v fun _ => 2) v fun k _ => Nat.add 3 (kN k)) v fun _ => 1
/-- are two keys of a kind alike? -/
def kEq (a b : RV) : Bool := gB (gI (gS false a fun l => gS false b fun r => eqL l r) a fun _ x => gI false b fun _ y => eqI x y) a fun x => gB false b fun y => eqB x y
/-- the first entry of the key among m from i on; first none: a key of another kind -/
def mFind (q : Nat) (cs : CT) (key : RV) (m : Nat) : Nat → Option (Option Nat) := @Nat.rec (fun _ => Nat → Option (Option Nat)) (fun _ => some none)
  (fun _ ih i => bf (Nat.beq (kOf (cg cs (Nat.add 1 (Nat.mul 2 i)))) q) (bf (kEq key (cg cs (Nat.add 1 (Nat.mul 2 i)))) (some (some i)) (ih (Nat.succ i))) none) m
def mSize (cs : CT) : Option Nat := gI none (cg cs 0) fun _ s => bf (nonI s) (some (natI s)) none
def mSet (cs : CT) (key v : RV) (s : Nat) (q : Option Nat) : CT :=
  @Option.rec Nat (fun _ => CT) (fT (cst cs key (Nat.add 1 (Nat.mul 2 s))) fun cs => fT (cst cs v (Nat.add 2 (Nat.mul 2 s))) fun cs => cst cs (.i .i64 (.ofNat (Nat.succ s))) 0) (fun i => cst cs v (Nat.add 2 (Nat.mul 2 i))) q
def stMi (q0 : Nat) (m k x : RO) : St := fun _ _ fl _ t h n => gM (.bad [130]) (ev t m) fun b => bf (Nat.ble fl b) (gMK (.bad [131]) (hg h b) fun cs => gO (.bad [132]) (mSize cs) fun s => bf (Nat.ble s 65536)
  (bf (Nat.beq (kOf (ev t k)) q0) (gO (.bad [134]) (mFind q0 cs (ev t k) s 0) fun q => nU (.bad [135]) (ev t x) fun v => nU (.bad [136]) (ev t k) fun key => fT (mSet cs key v s q) fun cs => fT (hst h (.bk cs MAPZ) b) fun h => .ok .ud h n) (.bad [133])) (.bad [137])) (.bad [138])
def mRes (two : Bool) (z : RV) (cs : CT) (h : HT) (n : Nat) (q : Option Nat) : SR := nU (.bad [139]) (@Option.rec Nat (fun _ => RV) z (fun i => cg cs (Nat.add 2 (Nat.mul 2 i))) q) fun v =>
  bf two (.ok (.tup (.cons v (.cons (.b (@Option.rec Nat (fun _ => Bool) false (fun _ => true) q)) .nil))) h n) (.ok v h n)
def stMl (q0 : Nat) (z : RV) (two : Bool) (m k : RO) : St := fun _ _ _ lim t h n => gM (.bad [140]) (ev t m) fun b => bf (Nat.ble (Nat.succ b) lim) (gMK (.bad [141]) (hg h b) fun cs => gO (.bad [142]) (mSize cs) fun s =>
  bf (Nat.beq (kOf (ev t k)) q0) (gO (.bad [144]) (mFind q0 cs (ev t k) s 0) fun q => mRes two z cs h n q) (.bad [143])) (.bad [145])
def stFg : St := fun _ _ _ _ _ h n => .ok .un h n
/-- as many zeros appended to nothing -/
def stAz (es : Nat) (z : RV) (x y : RO) : St := fun _ _ _ _ t h n => gL (.bad [170]) (ev t x) (gI (.bad [171]) (ev t y) fun j a => bf (is64 j) (bf (nonI a) (bf (Nat.ble 1 (natI a)) (bf (Nat.ble (natI a) 65536) (newCh h n (rep z (natI a)) (.su n 0 (natI a) es)) (.bad [172])) (.bad [173])) (.bad [174])) (.bad [175]))
  (fun _ _ _ _ => .bad [176]) (fun _ _ _ _ => .bad [177]) (fun _ _ => .bad [178])
/-- an interface's value is '.fn (33554432 + type) [.nil, value]', nil '.fn 33554432 []': what lies in it -/
def gIf (d : SR) (v : RV) (z : SR) (k : Nat → RV → SR) : SR := gF d v fun f c => bf (Nat.ble 33554432 f) (gN d c z fun y r => gN d y (gN d r d fun x q => gN d q (k f x) fun _ _ => d) fun _ _ => d) d
def taNo (z : RV) (two : Bool) (h : HT) (n : Nat) : SR := bf two (nU (.bad [181]) z fun z => .ok (.tup (.cons z (.cons (.b false) .nil))) h n) (.bad [182])
def taYes (two : Bool) (v : RV) (h : HT) (n : Nat) : SR := nU (.bad [183]) v fun v => bf two (.ok (.tup (.cons v (.cons (.b true) .nil))) h n) (.ok v h n)
def stTa (ty : Nat) (z : RV) (two : Bool) (x : RO) : St := fun _ _ _ _ t h n => gIf (.bad [180]) (ev t x) (taNo z two h n) fun f v => bf (Nat.beq f (Nat.add 33554432 ty)) (taYes two v h n) (taNo z two h n)
def ivR (st g : Bool) (off m : Nat) (v : RV) (h : HT) (n : Nat) : SR := bf st (gA (.bad [184]) v fun c => partC g c off m h n) (okV v h n 185)
def ivE (f : Nat) (e : IvE) (v : RV) (h : HT) (n : Nat) (k : Nat → RV → SR) (d : SR) : SR := @IvE.rec (fun _ => SR) (fun ty g st ag off m => bf (Nat.beq f (Nat.add 33554432 ty)) (gR (ivR st ag off m v h n) fun r _ _ => k g r) d) e
def ivL (f : Nat) (l : List IvE) (v : RV) (h : HT) (n : Nat) (k : Nat → RV → SR) : SR := @List.rec IvE (fun _ => SR) (.bad [188]) (fun e _ d => ivE f e v h n k d) l
def stIv (l : List IvE) (x : RO) (as : List RO) : St := fun _ cl fl _ t h n => gIf (.bad [189]) (ev t x) (.bad [190]) fun f v => ivL f l v h n fun g r => nU (.bad [191]) (evL t as) fun a => cl g (.cons r a) fl h n
/-- one operation -/
def step (o : RP) : St := @RP.rec (fun _ => St) stMv stPick stAl stBx stBd stBs stLd stSt stNc stBn stBq stNq stNg stNt stCv stMf stMs stSc stSs stSa stFa stFd stIa stIp stIx stSx stEx stCl stCf stLn stCp stAp stCy stMm stCr stSe stMk stMi stMl stFg stAz stTa stIv o
/-- is an operation wanted? -/
inductive W3 where | y | n | u
def want (t : FT) (g : G) : W3 := @G.rec (fun _ => FT → W3) (fun _ => .y)
  (fun p w t => match tg t p with
    | .b x => bf (eqB x w) .y .n
    | .ud => .n
    | _ => .u) g t
def put (t : FT) (d : D) (v : RV) : FT := @D.rec (fun _ => FT → RV → FT) (fun t _ => t) (fun p t v => tst t v p) d t v
abbrev Bd := FT → HT → Nat → BR
def opsOk (d : D) (t : FT) (r : SR) (ih : Bd) : BR := @SR.rec (fun _ => D → FT → Bd → BR) (fun v h n d t ih => fT (put t d v) fun t => ih t h n) (fun w _ _ _ => .bad w) r d t ih
def opsW (ys : Ys) (cl : Cl') (fl : Nat) (d : D) (o : RP) (ih : Bd) (t : FT) (h : HT) (n : Nat) (w : W3) : BR :=
  @W3.rec (fun _ => Ys → Cl' → Nat → D → RP → Bd → FT → HT → Nat → BR)
    (fun ys cl fl d o ih t h n => opsOk d t (step o ys cl fl 1152921504606846976 t h n) ih)
    (fun _ _ _ d _ ih t h n => fT (put t d .ud) fun t => ih t h n)
    (fun _ _ _ _ _ _ _ _ _ => .bad [99]) w ys cl fl d o ih t h n
def opsQ (q : RQ) (ys : Ys) (cl : Cl') (fl : Nat) (ih : Bd) (t : FT) (h : HT) (n : Nat) : BR :=
  @RQ.rec (fun _ => Ys → Cl' → Nat → Bd → FT → HT → Nat → BR) (fun d g _ o ys cl fl ih t h n => opsW ys cl fl d o ih t h n (want t g)) q ys cl fl ih t h n
/-- a region, in the text's order -/
def ops (ys : Ys) (cl : Cl') (fl : Nat) (l : List RQ) : Bd := @List.rec RQ (fun _ => Bd) .nx (fun q _ ih => opsQ q ys cl fl ih) l
/-! a region that draws its order: loads that were seen, memory as it was behind each operation that turns it -/
/-- are two values spelled alike? -/
def eqV (a : RV) : RV → Bool := @RV.rec (fun _ => RV → Bool) (fun _ => false) (fun _ => false) (fun x b => gB false b fun y => eqB x y) (fun k x b => gI false b fun j y => bf (eqK k j) (eqI x y) false) (fun _ _ _ => false)
  (fun l b => gS false b fun r => eqL l r) (fun b => @RV.rec (fun _ => Bool) false false (fun _ => false) (fun _ _ => false) (fun _ _ => false) (fun _ => false) true (fun _ _ => false) false (fun _ _ _ _ => false) (fun _ _ _ _ => false) (fun _ _ => false) false (fun _ _ _ => false) false (fun _ _ _ _ => false) (fun _ _ => false) (fun _ _ => false) (fun _ => false) b)
  (fun x o b => gP false b fun y q => bf (Nat.beq x y) (Nat.beq o q) false)
  (fun b => gL false b true (fun _ _ _ _ => false) (fun _ _ _ _ => false) (fun _ _ => false))
  (fun x o l c b => gL false b false (fun y q k e => bf (Nat.beq x y) (bf (Nat.beq o q) (bf (Nat.beq l k) (Nat.beq c e) false) false) false) (fun _ _ _ _ => false) (fun _ _ => false))
  (fun x o l c b => gL false b false (fun _ _ _ _ => false) (fun y q k e => bf (Nat.beq x y) (bf (Nat.beq o q) (bf (Nat.beq l k) (Nat.beq c e) false) false) false) (fun _ _ => false))
  (fun x e b => gL false b false (fun _ _ _ _ => false) (fun _ _ _ _ => false) (fun y f => bf (Nat.beq x y) (Nat.beq e f) false))
  (fun b => @RV.rec (fun _ => Bool) false false (fun _ => false) (fun _ _ => false) (fun _ _ => false) (fun _ => false) false (fun _ _ => false) false (fun _ _ _ _ => false) (fun _ _ _ _ => false) (fun _ _ => false) true (fun _ _ _ => false) false (fun _ _ _ _ => false) (fun _ _ => false) (fun _ _ => false) (fun _ => false) b)
  (fun f _ ih b => gF false b fun k c => bf (Nat.beq f k) (ih c) false)
  (fun b => gN false b true fun _ _ => false) (fun _ _ ih it b => gN false b false fun x y => bf (ih x) (it y) false) (fun _ ih b => gA false b ih) (fun _ ih b => gT false b ih) (fun x b => gM false b fun y => Nat.beq x y) a
/-- a load that was seen: from which state to which, block, place, whole row?, how many, what -/
inductive CK where | k (p q b o : Nat) (g : Bool) (m : Nat) (v : RV)
def rdV (g : Bool) (m : Nat) (cs : CT) (o : Nat) : RV := bf g (nU .un (rd cs m o) fun c => .agg c) (cg cs o)
def ckIn (h : HT) (j : Nat) (c : CK) : Bool := @CK.rec (fun _ => HT → Nat → Bool) (fun p q b o g m v h j => bf (Nat.ble p j) (bf (Nat.ble j q) (gK false (hg h b) fun cs _ => eqV (rdV g m cs o) v) true) true) c h j
def ckAll (l : List CK) (h : HT) (j : Nat) : Bool := @List.rec CK (fun _ => HT → Nat → Bool) (fun _ _ => true) (fun c _ ih h j => bf (ckIn h j c) (ih h j) false) l h j
def ckOver (hs : List HT) (l : List CK) : Bool := @List.rec HT (fun _ => List CK → Bool) (fun _ => true) (fun h r ih l => bf (ckAll l h r.length) (ih l) false) hs l
abbrev Dd := FT → HT → Nat → List CK → List HT → BR
def ckOf (p q : Nat) (o : RP) (t : FT) (n0 : Nat) (v : RV) (l : List CK) : Option (List CK) := match o with
  | .ld g m a => gP none (ev t a) fun b o => bf (Nat.ble (Nat.succ b) n0) (some (.k p q b o g m v :: l)) none
  | _ => none
def dOk (d : D) (k : K3) (o : RP) (n0 : Nat) (t : FT) (r : SR) (cs : List CK) (hs : List HT) (ih : Dd) : BR :=
  @SR.rec (fun _ => D → K3 → RP → Nat → FT → List CK → List HT → Dd → BR) (fun v h n d k o n0 t cs hs ih => fT (put t d v) fun t' =>
    @K3.rec (fun _ => BR) (ih t' h n cs hs) (ih t' h n cs hs) (fun p q => gO (.bad [96]) (ckOf p q o t n0 v cs) fun cs => ih t' h n cs hs) (ih t' h n cs (h :: hs)) k) (fun w _ _ _ _ _ _ _ _ => .bad w) r d k o n0 t cs hs ih
def limOf (k : K3) (n0 : Nat) : Nat := @K3.rec (fun _ => Nat → Nat) (fun _ => 1152921504606846976) (fun n0 => n0) (fun _ _ n0 => n0) (fun _ => 1152921504606846976) k n0
def dW (ys : Ys) (cl : Cl') (fl n0 : Nat) (d : D) (k : K3) (o : RP) (ih : Dd) (t : FT) (h : HT) (n : Nat) (cs : List CK) (hs : List HT) (w : W3) : BR :=
  @W3.rec (fun _ => Ys → Cl' → Nat → Nat → D → K3 → RP → Dd → FT → HT → Nat → List CK → List HT → BR)
    (fun ys cl fl n0 d k o ih t h n cs hs => dOk d k o n0 t (step o ys cl fl (limOf k n0) t h n) cs hs ih)
    (fun _ _ _ _ d k _ ih t h n cs hs => fT (put t d .ud) fun t => @K3.rec (fun _ => BR) (ih t h n cs hs) (ih t h n cs hs) (fun _ _ => ih t h n cs hs) (ih t h n cs (h :: hs)) k)
    (fun _ _ _ _ _ _ _ _ _ _ _ _ _ => .bad [99]) w ys cl fl n0 d k o ih t h n cs hs
def dQ (q : RQ) (ys : Ys) (cl : Cl') (fl n0 : Nat) (ih : Dd) (t : FT) (h : HT) (n : Nat) (cs : List CK) (hs : List HT) : BR :=
  @RQ.rec (fun _ => Ys → Cl' → Nat → Nat → Dd → FT → HT → Nat → List CK → List HT → BR) (fun d g k o ys cl fl n0 ih t h n cs hs => dW ys cl fl n0 d k o ih t h n cs hs (want t g)) q ys cl fl n0 ih t h n cs hs
def dops (ys : Ys) (cl : Cl') (fl n0 : Nat) (l : List RQ) : Dd := @List.rec RQ (fun _ => Dd) (fun t h n cs hs => bf (ckOver hs cs) (bf (Nat.ble n 8388608) (.nx t h n) (.bad [93])) (.bad [94])) (fun q _ ih => dQ q ys cl fl n0 ih) l
def andThen (r : BR) (k : Bd) : BR := @BR.rec (fun _ => Bd → BR) (fun t h n k => k t h n) (fun id t h n _ => .ex id t h n) (fun t h n _ => .rt t h n) (fun w _ => .bad w) r k
/-- at most 2^k rounds -/
def rounds (body : Bd) (k : Nat) : Bd := @Nat.rec (fun _ => Bd) body (fun _ ih t h n => andThen (ih t h n) ih) k
def cdC (c : RV) (a b : Bd) : Bd := gB (fun _ _ _ => .bad [98]) c fun x => bf x a b
def blC (r : BR) (id : Nat) : BR := @BR.rec (fun _ => Nat → BR) (fun t h n _ => .nx t h n) (fun j t h n id => bf (Nat.beq j id) (.nx t h n) (.ex j t h n)) (fun t h n _ => .rt t h n) (fun w _ => .bad w) r id
def lpC (r : BR) : BR := @BR.rec (fun _ => BR) (fun _ _ _ => .bad [97]) (fun j t h n => .ex j t h n) (fun t h n => .rt t h n) (fun w => .bad w) r
/-! a range over a function: a block for its record; what the iterator does; how the rounds have ended -/
def rfState (v : RV) (t : FT) (h : HT) (n : Nat) : BR := gF (.bad [184]) v fun _ s => gB (gN (gP (.bad [185]) s fun id _ => .ex id t h n) s (.rt t h n) (fun _ _ => .bad [186])) s fun busy => bf busy (.bad [187]) (.nx t h n)
def rfEnd (b : Nat) (t : FT) (r : SR) : BR := @SR.rec (fun _ => Nat → FT → BR) (fun _ h n b t => gMK (.bad [183]) (hg h b) fun cs => fT (hst h .no b) fun h' => rfState (cg cs 0) t h' n) (fun w _ _ => .bad w) r b t
def rfC (cl : Cl') (fl : Nat) (g : RO) (key : Nat) (sv : List Pa) : Bd := fun t h n => gF (.bad [180]) (ev t g) fun f c => bf (Nat.ble BND f) (.bad [181]) (nU (.bad [182]) (evL t (sv.map RO.t)) fun vs => bf (Nat.ble fl n)
  (fT (lay (.cons .np vs) ce 0) fun cs => fT (cst cs (.fn key (.b false)) 0) fun cs => fT (hst h (.bk cs MAPZ) n) fun h => rfEnd n t (cl f (.cons (.fn (Nat.add 33554432 key) (.cons (.mp n) .nil)) c) fl h (Nat.succ n))) (.bad [188]))
def code (ys : Ys) (cl : Cl') (fl : Nat) (c : RC) : Bd :=
  @RC.rec (fun _ => Bd) .nx (fun l t h n => ops ys cl fl l t h n) (fun l t h n => dops ys cl fl n l t h n [] [h]) (fun _ _ fa fb t h n => andThen (fa t h n) fb)
    (fun c _ _ fa fb t h n => cdC (ev t c) fa fb t h n) (fun id _ fa t h n => blC (fa t h n) id) (fun _ fa t h n => lpC (rounds fa 20 t h n))
    (fun id t h n => .ex id t h n) .rt (fun g key sv => rfC cl fl g key sv) c
/-- the results -/
def resC (h : HT) (v : RV) (g : Bool) (m : Nat) : RV := gP .un v fun b o => gK .un (hg h b) fun cs _ => bf g (nU .un (rd cs m o) fun c => .agg c) (cg cs o)
def res (t : FT) (h : HT) (l : List RS) : RV := @List.rec RS (fun _ => RV) .nil
  (fun x _ ih => kons (@RS.rec (fun _ => FT → HT → RV) (fun p t _ => tg t p) (fun p g m t h => resC h (tg t p) g m) x t h) ih) l
def ret (t : FT) (h : HT) (n : Nat) (l : List RS) : SR := gN (.bad [90]) (res t h l) (.ok (.tup .nil) h n) fun a r => gN (.bad [89]) r (okV a h n 88) fun b q => .ok (.tup (.cons a (.cons b q))) h n
def retR (r : BR) (f : Nat) (l : List RS) : SR := @BR.rec (fun _ => Nat → List RS → SR) (fun t h n _ l => ret t h n l) (fun _ _ _ _ f _ => .bad [95, f]) (fun t h n _ l => ret t h n l) (fun w f _ => .bad (f :: w)) r f l
/-! a round -/
def laySl : List Pa → RV → FT → Option FT := fun l => @List.rec Pa (fun _ => RV → FT → Option FT) (fun c t => gN none c (some t) fun _ _ => none) (fun p _ ih c t => gN none c none fun x r => ih r (tst t x p)) l
def rndSet (key b : Nat) (st : RV) (ans : Bool) (h : HT) (n : Nat) : SR := gMK (.bad [190]) (hg h b) fun cs => gF (.bad [191]) (cg cs 0) fun k s => bf (Nat.beq k key) (gB (.bad [192]) s fun busy => bf busy (fT (cst cs (.fn key st) 0) fun cs => fT (hst h (.bk cs MAPZ) b) fun h => .ok (.b ans) h n) (.bad [193])) (.bad [194])
def rndEnd (key b : Nat) (r : BR) : SR := @BR.rec (fun _ => SR) (fun _ h n => rndSet key b (.b false) true h n) (fun id _ h n => rndSet key b (.p id 0) false h n) (fun _ h n => rndSet key b .nil false h n) (fun w => .bad w) r
def rndGo (key b : Nat) (body : Bd) (r : BR) : SR := @BR.rec (fun _ => SR) (fun t h n => gMK (.bad [195]) (hg h b) fun cs => gF (.bad [196]) (cg cs 0) fun k s => bf (Nat.beq k key) (gB (.bad [197]) s fun busy => bf busy (.bad [198]) (fT (cst cs (.fn key (.b true)) 0) fun cs => fT (hst h (.bk cs MAPZ) b) fun h => rndEnd key b (body t h n))) (.bad [199]))
  (fun _ _ _ _ => .bad [200]) (fun _ _ _ => .bad [201]) (fun w => .bad w) r
def rndC (key nv : Nat) (sv ps : List Pa) (asg body : Bd) (a : RV) (fl : Nat) (h : HT) (n : Nat) : SR := gN (.bad [202]) a (.bad [203]) fun y xs => gM (.bad [204]) y fun b => bf (Nat.ble fl b) (gMK (.bad [205]) (hg h b) fun cs => gF (.bad [206]) (cg cs 0) fun k _ => bf (Nat.beq k key) (nU (.bad [207]) (rd cs nv 1) fun vs =>
  gO (.bad [208]) (laySl sv vs te) fun t0 => gO (.bad [209]) (laySl ps xs t0) fun t1 => rndGo key b body (asg t1 h n)) (.bad [210])) (.bad [211])
def callF (ys : Ys) (cl : Cl') (f : Nat) (r : RF) (a : RV) (fl : Nat) (h : HT) (n : Nat) : SR :=
  @RF.rec (fun _ => Ys → Cl' → Nat → RV → Nat → HT → Nat → SR) (fun np b rs ys cl f a fl h n => gO (.bad [93]) (chLen a) fun m => bf (Nat.beq m np) (retR (code ys cl fl b (lay a te 0) h n) f rs) (.bad [94, f]))
    (fun key nv sv ps asg body ys cl _ a fl h n => rndC key nv sv ps (code ys cl fl asg) (code ys cl fl body) a fl h n) r ys cl f a fl h n
/-- a call, so deep at most -/
def call (ys : Ys) (fs : Nat → Option RF) (deep : Nat) : Cl' :=
  @Nat.rec (fun _ => Cl') (fun _ _ _ _ _ => .bad [91]) (fun _ ih f a fl h n => gO (.bad [92, f]) (fs f) fun r => callF ys ih f r a fl h n) deep
end
end Go.Rn
