/-
  One text of a symbolic evaluator over the model, shown sound once for every program: no statement is claimed here.
-/
import Derived.Test.YtendogjdmabknaaRnB
namespace Go.Rn
/-- the key of a number from 1 on -/
def pa (fuel : Nat) (k : Nat) : Pa := match fuel with
  | 0 => .z
  | f + 1 => if k ≤ 1 then .z else if k % 2 = 0 then .o (pa f (k / 2)) else .i (pa f (k / 2))
def atom : Value → RV
  | .bool b => .b b
  | .int k n => .i k n
  | .string s => .s (s.data.toList.map (·.toNat))
  | .pointer none => .np
  | .slice none 0 0 => .ns
  | .nilFunc => .nf
  | .nilIface => .fn 33554432 .nil
  | _ => .un
def chain : List Value → RV
  | [] => .nil
  | v :: r => .cons (atom v) (chain r)
def knownAtom (v : Value) : Bool := match atom v with | .un => false | _ => true
def quote : Value → RV
  | .agg cs => if cs.toList.all knownAtom then .agg (chain cs.toList) else .un
  | v => atom v
def opd (P : Program) (nt : Nat) : Operand → RO
  | .tmp t => if t < nt then .t (pa 20 (t + 1)) else .c .un
  | .const v => .c (quote v)
  | .global g => if g < P.globals.size then .c (.p g 0) else .c .un
  | .func f => if f < BND then .c (.fn f .nil) else .c .un
def badP : RP := .ex 0 (.c .un)
def szOf (P : Program) (t : TypeId) : Option Nat := (P.info? t).map (·.size)
def aggOf (P : Program) (t : TypeId) : Option Bool := (P.underlying t).map fun d => match d with | .struct _ | .array _ _ => true | _ => false
def zeroOf (P : Program) (t : TypeId) : Option Value := (P.info? t).bind (·.zero)
/-- offsets and sizes of the parts of a struct or an array -/
def places (P : Program) (t : TypeId) (ps : List (Nat × Operand)) (nt : Nat) : Option (List (Nat × Nat × RO)) :=
  match P.underlying t with
  | some (.struct fs) => do
    let pl ← fs.toList.mapM (fun f => (P.info? f.type).map fun i => (f.offset, i.size))
    ps.mapM fun p => do
      let q ← pl[p.1]?
      if 0 < q.2 then pure (q.1, q.2, opd P nt p.2) else none
  | some (.array _ e) => do
    let i ← P.info? e
    ps.mapM fun p => if 0 < i.size then pure (p.1 * i.size, i.size, opd P nt p.2) else none
  | _ => none
def known (P : Program) (f : Nat) : Bool := match P.funcs[f]? with
  | some fn => fn.body.isSome && fn.name != "runtime.NumGoroutine" && Nat.blt f 16777216
  | none => false
def optO (P : Program) (nt : Nat) (o : Option Operand) : Option RO := o.map (opd P nt)
/-- the kinds of a struct's fields, one cell each, in a row from i on -/
def kindsF (P : Program) : List Field → Nat → Option (List Nat)
  | [], _ => some []
  | f :: l, i => if f.offset = i ∧ f.name ≠ "_" then (match P.underlying f.type with
    | some .bool => (kindsF P l (i + 1)).map (0 :: ·)
    | some (.int _) => (kindsF P l (i + 1)).map (1 :: ·)
    | _ => none) else none
def compSe (P : Program) (nt : Nat) (neg : Bool) (op : BinOp) (t : TypeId) (fs : Array Field) (x y : Operand) : RP :=
  match kindsF P fs.toList 0 with
  | some ks => if P.stoodInHeld t = false ∧ P.eqGuardType P.depth t = false then .se ks neg (opd P nt x) (opd P nt y) else .bn op (opd P nt x) (opd P nt y)
  | none => .bn op (opd P nt x) (opd P nt y)
/-- the kind of an array's elements, one cell each -/
def kindA (P : Program) (e : TypeId) : Option Nat := match P.underlying e with
  | some .bool => some 0
  | some (.int _) => some 1
  | _ => none
def compAe (P : Program) (nt : Nat) (neg : Bool) (op : BinOp) (t : TypeId) (len : Nat) (el : TypeId) (x y : Operand) : RP :=
  match kindA P el with
  | some k => if szOf P el = some 1 ∧ P.eqGuardType P.depth t = false then .se (List.replicate len k) neg (opd P nt x) (opd P nt y) else .bn op (opd P nt x) (opd P nt y)
  | none => .bn op (opd P nt x) (opd P nt y)
/-- the method of a type that a call of this name runs, if it is one of the plain kinds -/
def ivAt (P : Program) (name : String) (t : Nat) : Option IvE := do
  let i ← P.info? t
  let m ← i.methods.find? (·.name == name)
  let (f, pr) ← m.func
  if pr = false ∧ known P f = true then
    match m.path.toList with
    | [] => match P.underlying t with
      | some (.pointer _) => none
      | some _ => some (.e t f false false 0 0)
      | none => none
    | [s] => if s.deref then none else match P.underlying s.struct with
      | some (.struct fs) => do
        let fd ← fs[s.index]?
        let sz ← szOf P fd.type
        let g ← aggOf P fd.type
        match P.underlying fd.type with
        | some (.pointer _) => none
        | some _ => some (.e t f true g fd.offset sz)
        | none => none
      | _ => none
    | _ => none
  else none
def ivTab (P : Program) (name : String) : List IvE := (List.range P.types.size).filterMap (ivAt P name)
def compCall (P : Program) (nt : Nat) (c : Call) : Option RP :=
  let as := c.args.toList.map (opd P nt)
  match c.callee with
  | .value (.func f) => if known P f = true ∧ f < BND then some (.cl f as) else none
  | .value x => some (.cf (opd P nt x) as)
  | .invoke x name => some (.iv (ivTab P name) (opd P nt x) as)
  | .builtin b =>
    match b, c.args.toList, c.argTypes.toList with
    | .len, [x], [t] => match P.underlying t with
      | some .string => some (.ln true (opd P nt x))
      | some (.slice _) => some (.ln false (opd P nt x))
      | some (.array n _) => some (.mv (.c (.i .i64 n)))
      | _ => none
    | .cap, [x], [t] => match P.underlying t with
      | some (.slice _) => some (.cp (opd P nt x))
      | some (.array n _) => some (.mv (.c (.i .i64 n)))
      | _ => none
    | .append, [x, y], [t, u] => match P.underlying t, t == u with
      | some (.slice e), true => do
        let i ← P.info? e
        let z ← i.zero
        if 0 < i.size ∧ i.bytes ≤ 65536 ∧ z.cells.size = i.size then some (.ap i.size (opd P nt x) (opd P nt y)) else none
      | some (.slice e), false => match P.underlying u with
        | some (.int _) => do
          let i ← P.info? e
          let z ← i.zero
          if 0 < i.size ∧ i.bytes ≤ 65536 ∧ z.cells.size = i.size ∧ z.cells.toList.all knownAtom = true then some (.az i.size (chain z.cells.toList) (opd P nt x) (opd P nt y)) else none
        | _ => none
      | _, _ => none
    | .copy, [x, y], [t, u] => match P.underlying t, P.underlying u with
      | some (.slice e), some (.slice _) => do
        let s ← szOf P e
        if 0 < s then some (.cy s (opd P nt x) (opd P nt y)) else none
      | _, _ => none
    | .clear, [x], [t] => match P.underlying t with
      | some (.slice e) => do
        let i ← P.info? e
        let z ← i.zero
        if 0 < i.size ∧ z.cells.size = i.size ∧ z.cells.toList.all knownAtom = true then some (.cr (chain z.cells.toList) (opd P nt x)) else none
      | _ => none
    | .min, [x, y], _ => some (.mm false (opd P nt x) (opd P nt y))
    | .max, [x, y], _ => some (.mm true (opd P nt x) (opd P nt y))
    | _, _, _ => none
/-- what is not known is forgotten -/
def mvP (P : Program) (nt : Nat) (x : Operand) : RP := match opd P nt x with | .c .un => .fg | y => .mv y
/-- may a map's room be asked so? -/
def keySize : Operand → Bool | .const (.int _ _) => true | _ => false
/-- may keys of this type be compared by their kind? -/
def kNum : IntKind → Nat | .i8 => 3 | .i16 => 4 | .i32 => 5 | .i64 => 6 | .u8 => 7 | .u16 => 8 | .u32 => 9 | .u64 => 10
theorem kNum_eq (k : IntKind) : kNum k = Nat.add 3 (kN k) := by cases k <;> rfl
def keyOf : TypeDesc → Option Nat | .bool => some 1 | .string => some 2 | .int k => some (kNum k) | _ => none
def keyType (P : Program) (t : TypeId) : Option Nat := (P.underlying t).bind keyOf
def compOp (P : Program) (nt : Nat) (o : Op) : Option RP :=
  match o with
  | .move x | .assign x => some (mvP P nt x)
  | .pick c a b => some (.pick (opd P nt c) (opd P nt a) (opd P nt b))
  | .alloc e => do
    let z ← zeroOf P e
    some (.al (chain z.cells.toList))
  | .box _ x => some (.bx (opd P nt x))
  | .build t ps => do
    let z ← zeroOf P t
    let l ← places P t ps.toList nt
    if z.cells.toList.all knownAtom then some (.bd (chain z.cells.toList) l) else none
  | .buildSlice t len ps => match P.underlying t with
    | some (.slice e) => do
      let s ← szOf P e
      let z ← zeroOf P e
      if 0 < s ∧ len * s ≤ 65536 ∧ z.cells.size = s ∧ z.cells.toList.all knownAtom = true then
        some (.bs (chain ((List.range (len * s)).map fun i => z.cells[i % s]!)) len (ps.toList.map fun p => (p.1 * s, s, opd P nt p.2)))
      else none
    | _ => none
  | .load t a => do
    let s ← szOf P t
    let g ← aggOf P t
    some (.ld g s (opd P nt a))
  | .store t a v => do
    let s ← szOf P t
    if 0 < s then some (.st s (opd P nt a) (opd P nt v)) else none
  | .nilCheck x => some (.nc (opd P nt x))
  | .binOp op t x y _ => match op with
    | .eql => match P.underlying t with
      | some .bool => some (.bq false (opd P nt x) (opd P nt y))
      | some (.pointer _) => some (.nq 0 false (opd P nt x) (opd P nt y))
      | some (.slice _) => some (.nq 1 false (opd P nt x) (opd P nt y))
      | some (.func _ _ _) => some (.nq 2 false (opd P nt x) (opd P nt y))
      | some (.struct fs) => some (compSe P nt false op t fs x y)
      | some (.array len el) => some (compAe P nt false op t len el x y)
      | _ => some (.bn op (opd P nt x) (opd P nt y))
    | .neq => match P.underlying t with
      | some .bool => some (.bq true (opd P nt x) (opd P nt y))
      | some (.pointer _) => some (.nq 0 true (opd P nt x) (opd P nt y))
      | some (.slice _) => some (.nq 1 true (opd P nt x) (opd P nt y))
      | some (.func _ _ _) => some (.nq 2 true (opd P nt x) (opd P nt y))
      | some (.struct fs) => some (compSe P nt true op t fs x y)
      | some (.array len el) => some (compAe P nt true op t len el x y)
      | _ => some (.bn op (opd P nt x) (opd P nt y))
    | _ => some (.bn op (opd P nt x) (opd P nt y))
  | .unOp op _ x => match op with
    | .neg => some (.ng (opd P nt x))
    | .not => some (.nt (opd P nt x))
    | _ => none
  | .convert s d x => match P.underlying s, P.underlying d with
    | some _, some (.int k) => some (.cv k (opd P nt x))
    | _, _ => none
  | .makeFunc fn first captured => match fn, first.toList with
    | .func f, [] => if f < BND then some (.mf f (captured.toList.map (opd P nt))) else none
    | .func f, [x] => if f < BND then some (.mf (BND + f) (opd P nt x :: captured.toList.map (opd P nt))) else none
    | _, _ => none
  | .makeInterface t x => match P.underlying t with
    | some (.interface _) => none
    | some _ => some (.mf (33554432 + t) [.c .nil, opd P nt x])
    | none => none
  | .typeAssert x _ t two => match P.underlying t with
    | some (.interface _) => none
    | some _ => do
      let z ← zeroOf P t
      some (.ta t (quote z) two (opd P nt x))
    | none => none
  | .makeSlice t l c => match P.underlying t with
    | some (.slice e) => do
      let i ← P.info? e
      let z ← i.zero
      if 0 < i.size ∧ i.bytes ≤ 65536 ∧ z.cells.size = i.size ∧ z.cells.toList.all knownAtom = true then some (.ms (chain z.cells.toList) (opd P nt l) (opd P nt c)) else none
    | _ => none
  | .slice t x lo hi mx => match P.underlying t with
    | some (.slice e) => do
      let s ← szOf P e
      if 0 < s ∧ (mx.isSome → hi.isSome) then some (.sc s (opd P nt x) (optO P nt lo) (optO P nt hi) (optO P nt mx)) else none
    | some .string => if mx.isNone then some (.ss (opd P nt x) (optO P nt lo) (optO P nt hi)) else none
    | some (.array n e) => do
      let s ← szOf P e
      if 0 < s ∧ mx.isNone then some (.sa n s (opd P nt x) (optO P nt lo) (optO P nt hi)) else none
    | _ => none
  | .fieldAddr t x k => match P.underlying t with
    | some (.struct fs) => do
      let f ← fs[k]?
      let s ← szOf P f.type
      if 0 < s then some (.fa f.offset (opd P nt x)) else none
    | _ => none
  | .field t x k => match P.underlying t with
    | some (.struct fs) => do
      let f ← fs[k]?
      let s ← szOf P f.type
      let g ← aggOf P f.type
      some (.fd g f.offset s (opd P nt x))
    | _ => none
  | .indexAddr t x i => match P.underlying t with
    | some (.slice e) => do
      let s ← szOf P e
      if 0 < s then some (.ia s (opd P nt x) (opd P nt i)) else none
    | some (.array n e) => do
      let s ← szOf P e
      if 0 < s then some (.ip n s (opd P nt x) (opd P nt i)) else none
    | _ => none
  | .index t x i => match P.underlying t with
    | some (.array n e) => do
      let s ← szOf P e
      let g ← aggOf P e
      if 0 < s then some (.ix g n s (opd P nt x) (opd P nt i)) else none
    | some .string => some (.sx (opd P nt x) (opd P nt i))
    | _ => none
  | .extract x k => some (.ex k (opd P nt x))
  | .makeMap t r => match P.underlying t, r.all keySize with
    | some (.map _ _), true => some .mk
    | _, _ => none
  | .insert t m k x | .mapUpdate t m k x => match P.underlying t with
    | some (.map kt _) => do
      let q ← keyType P kt
      some (.mi q (opd P nt m) (opd P nt k) (opd P nt x))
    | _ => none
  | .lookup t m k two => match P.underlying t with
    | some (.map kt e) => do
      let z ← zeroOf P e
      let q ← keyType P kt
      some (.ml q (quote z) two (opd P nt m) (opd P nt k))
    | _ => none
  | .call c => compCall P nt c
  | _ => none
def compDst (nt : Nat) (d : Option Tmp) : Option D := match d with
  | none => some .no
  | some t => if t < nt then some (.d (pa 20 (t + 1))) else none
def compG (os : Array Oper) (nt : Nat) (g : Option (Nat × Bool)) : Option G := match g with
  | none => some .no
  | some (j, w) => match (os[j]?).bind (·.dst) with
    | some t => if t < nt then some (.g (pa 20 (t + 1)) w) else none
    | none => none
/-- what an operation does to memory -/
inductive Cl where | pure | load | alloc | eff
  deriving DecidableEq
def cls : RP → Cl
  | .ld .. => .load
  | .al _ | .bx _ | .bs .. | .ms .. | .mk => .alloc
  | .cl .. | .cf .. | .st .. | .ap .. | .cy .. | .cr .. | .mi .. | .ml .. | .az .. | .iv .. => .eff
  | _ => .pure
/-- is a among the numbers of b? -/
def within (a b : Nat) : Bool := a &&& b == a
/-- the numbers of the operations of a kind -/
def those (k : Cl) : List Cl → Nat → Nat
  | [], _ => 0
  | c :: r, i => (if c = k then 2 ^ i else 0) ||| those k r (i + 1)
/-- how many of the operations e are ahead of i in any order; how many may be -/
def ahead (bf : List Nat) (e i : Nat) : Nat := (List.range bf.length).foldl (fun s j => if e.testBit j && (bf.getD i 0).testBit j then s + 1 else s) 0
def maybe (bf : List Nat) (e i : Nat) : Nat := (List.range bf.length).foldl (fun s j => if e.testBit j && !(bf.getD j 0).testBit i then s + 1 else s) 0
/-- how each operation of a drawn region may be held; none: not at all. e, a: the ones that turn memory, that make it -/
def kinds (bf : List Nat) (e a : Nat) : List Cl → Nat → Option (List K3)
  | [], _ => some []
  | c :: r, i =>
    let b := bf.getD i 0
    let lo := 2 ^ i - 1
    match c with
    | .pure => do pure (.nm :: (← kinds bf e a r (i + 1)))
    | .alloc => do pure (.nm :: (← kinds bf e a r (i + 1)))
    | .load => do
      let rest ← kinds bf e a r (i + 1)
      let p := ahead bf e i
      let q := maybe bf e i
      pure ((if p = q then (if within (a &&& lo) b then .nm else .lm) else .ck p q) :: rest)
    | .eff => if within (e &&& lo) b && within (a &&& lo) b then do pure (.ef :: (← kinds bf e a r (i + 1))) else none
def compQ (P : Program) (nt : Nat) (os : Array Oper) (o : Oper) (k : K3) : RQ :=
  match compDst nt o.dst, compG os nt o.guard with
  | some d, some g => .q d g k ((compOp P nt o.op).getD badP)
  | _, _ => .q .no .no .nm badP
def compReg (P : Program) (nt : Nat) (os : Array Oper) : List RQ := os.toList.map fun o => compQ P nt os o .nm
/-! what a drawn region is asked, of its operations as they will be run -/
/-- the numbers that are read, as bits -/
def paN : Pa → Nat | .z => 1 | .o p => 2 * paN p | .i p => 2 * paN p + 1
def ro : RO → Nat | .t p => 2 ^ paN p | .c _ => 0
def roL : List RO → Nat | [] => 0 | x :: r => ro x ||| roL r
def roP : List (Nat × Nat × RO) → Nat | [] => 0 | x :: r => ro x.2.2 ||| roP r
def roO : Option RO → Nat | none => 0 | some x => ro x
def rdm : RP → Nat
  | .mv x => ro x | .pick c a b => ro c ||| ro a ||| ro b | .al _ => 0 | .bx x => ro x
  | .bd _ ps => roP ps | .bs _ _ ps => roP ps
  | .ld _ _ a => ro a | .st _ a v => ro a ||| ro v | .nc x => ro x
  | .bn _ x y => ro x ||| ro y | .bq _ x y => ro x ||| ro y | .nq _ _ x y => ro x ||| ro y
  | .ng x => ro x | .nt x => ro x | .cv _ x => ro x | .mf _ cs => roL cs
  | .ms _ l c => ro l ||| ro c
  | .sc _ x lo hi mx => ro x ||| roO lo ||| roO hi ||| roO mx | .ss x lo hi => ro x ||| roO lo ||| roO hi | .sa _ _ x lo hi => ro x ||| roO lo ||| roO hi
  | .fa _ x => ro x | .fd _ _ _ x => ro x | .ia _ x i => ro x ||| ro i | .ip _ _ x i => ro x ||| ro i | .ix _ _ _ x i => ro x ||| ro i | .sx x i => ro x ||| ro i
  | .ex _ x => ro x | .cl _ as => roL as | .cf x as => ro x ||| roL as
  | .ln _ x => ro x | .cp x => ro x | .ap _ x y => ro x ||| ro y | .cy _ x y => ro x ||| ro y | .mm _ x y => ro x ||| ro y
  | .cr _ x => ro x | .se _ _ x y => ro x ||| ro y
  | .az _ _ x y => ro x ||| ro y
  | .ta _ _ _ x => ro x | .iv _ x as => ro x ||| roL as
  | .mk => 0 | .fg => 0 | .mi _ m k x => ro m ||| ro k ||| ro x | .ml _ _ _ m k => ro m ||| ro k
def gm : G → Nat | .no => 0 | .g p _ => 2 ^ paN p
def dm : D → Nat | .no => 0 | .d p => 2 ^ paN p
structure It where
  ix : Nat
  bf : Nat
  rd : Nat
  wr : Nat
  c : Cl
  en : Nat
  p : Nat
  q : Nat
  nm : Bool
def isEf : RQ → Bool | .q _ _ .ef _ => true | _ => false
def itOf (ix bf en : Nat) : RQ → It
  | .q d g k o => { ix, bf, rd := rdm o ||| gm g, wr := dm d, c := cls o, en, p := (match k with | .ck p _ => p | _ => en), q := (match k with | .ck _ q => q | _ => en), nm := (match k with | .nm => true | _ => false) }
/-- is it of the kind that it is held as? -/
def oneOk (en : Nat) : RQ → Bool
  | .q _ _ k o => match cls o, k with
    | .pure, .nm => true
    | .alloc, .nm => true
    | .eff, .ef => true
    | .load, .nm => true
    | .load, .lm => true
    | .load, .ck p q => Nat.ble p en && Nat.ble en q
    | _, _ => false
def pairOk (x y : It) : Bool :=
  y.bf.testBit x.ix || (Nat.beq (x.wr &&& (y.rd ||| y.wr)) 0 && Nat.beq (x.rd &&& y.wr) 0 &&
    (match x.c, y.c with
     | .eff, .eff => false
     | .alloc, .eff => false
     | .alloc, .load => !y.nm
     | .eff, .load => Nat.ble y.p x.en
     | .load, .eff => Nat.ble (y.en + 1) x.q
     | _, _ => true))
def items : List RQ → List Nat → Nat → Nat → List It
  | [], _, _, _ => []
  | q :: l, bfs, ix, en => itOf ix (bfs.headD 0) en q :: items l bfs.tail (ix + 1) (if isEf q then en + 1 else en)
def onesOk : List RQ → Nat → Bool
  | [], _ => true
  | q :: l, en => oneOk en q && onesOk l (if isEf q then en + 1 else en)
def pairsOk : List It → Bool
  | [] => true
  | x :: r => r.all (pairOk x) && pairsOk r
/-- edges lead back -/
def backOk (os : List Oper) (i : Nat) : Bool := match os with
  | [] => true
  | o :: r => o.after.all (fun e => !Region.binds .any e || Nat.ble (e.on + 1) i) && backOk r (i + 1)
def compDr (P : Program) (nt : Nat) (os : Array Oper) : List RQ :=
  let cs := os.toList.map fun o => cls ((compOp P nt o.op).getD badP)
  let bf := (Region.before os).toList
  match kinds bf (those .eff cs 0) (those .alloc cs 0) cs 0 with
  | some ks =>
    let l := (os.toList.zip ks).map fun ok => compQ P nt os ok.1 ok.2
    if l.length = os.size ∧ backOk os.toList 0 = true ∧ onesOk l 0 = true ∧ pairsOk (items l bf 0 0) = true ∧ P.follows .mixedOrders = true then l else [.q .no .no .nm badP]
  | none => [.q .no .no .nm badP]
/-- the ranges over functions in a piece of code, in the text's order -/
def rngs : Code → List (Array Tmp × Code × Code)
  | .seq a b => rngs a ++ rngs b
  | .cond _ a b => rngs a ++ rngs b
  | .block _ a => rngs a
  | .loop a => rngs a
  | .scope a => rngs a
  | .rangeFunc _ ps a b => (ps, a, b) :: (rngs a ++ rngs b)
  | _ => []
/-- the number of a function's i-th range -/
def keyAt (f i : Nat) : Nat := f * 256 + i
/-- what a piece of code reads, what it writes, as bits -/
def rqR : List RQ → Nat | [] => 0 | .q _ g _ o :: l => rdm o ||| gm g ||| rqR l
def rqW : List RQ → Nat | [] => 0 | .q d _ _ _ :: l => dm d ||| rqW l
def svR : List Pa → Nat | [] => 0 | p :: l => 2 ^ paN p ||| svR l
def rcR : RC → Nat
  | .rg l => rqR l | .dr l => rqR l | .sq a b => rcR a ||| rcR b | .cd c a b => ro c ||| rcR a ||| rcR b | .bl _ a => rcR a | .lp a => rcR a | .rf g _ sv => ro g ||| svR sv
  | _ => 0
def rcW : RC → Nat
  | .rg l => rqW l | .dr l => rqW l | .sq a b => rcW a ||| rcW b | .cd _ a b => rcW a ||| rcW b | .bl _ a => rcW a | .lp a => rcW a
  | _ => 0
/-- the slots that a round has of its activation -/
def svOf (nt : Nat) (ps : List Pa) (a b : RC) : List Pa :=
  ((List.range nt).filter fun i => (rcR a ||| rcR b).testBit (i + 1) && !(rcW a ||| rcW b ||| svR ps).testBit (i + 1)).map fun i => pa 20 (i + 1)
def slotsOf (ps : Array Tmp) : List Pa := ps.toList.map fun i => pa 20 (i + 1)
def comp (P : Program) (nt f : Nat) : Code → Nat → RC
  | .skip, _ => .sk
  | .region _ os d, _ => if d then .dr (compDr P nt os) else .rg (compReg P nt os)
  | .seq a b, i => .sq (comp P nt f a i) (comp P nt f b (i + (rngs a).length))
  | .cond c a b, i => .cd (opd P nt c) (comp P nt f a i) (comp P nt f b (i + (rngs a).length))
  | .block id a, i => .bl id (comp P nt f a i)
  | .loop a, i => .lp (comp P nt f a i)
  | .scope a, i => comp P nt f a i
  | .rangeFunc g ps a b, i => if ps.toList.all (fun t => decide (t < nt)) = false then .cd (.c .un) .sk .sk else .rf (opd P nt g) (keyAt f i) (svOf nt (slotsOf ps) (comp P nt f a (i + 1)) (comp P nt f b (i + 1 + (rngs a).length)))
  | .exit id, _ => .ex id
  | .ret, _ => .rt
  | .label _, _ => .sk
  | _, _ => .cd (.c .un) .sk .sk
/-- a function's i-th range -/
def loopAt (P : Program) (k : Nat) : Option (Nat × Nat × Array Tmp × Code × Code) := do
  let fn ← P.funcs[k / 256]?
  let c ← fn.body
  if (rngs c).length ≤ 256 then do
    let (ps, a, b) ← (rngs c)[k % 256]?
    pure (k / 256, fn.ntmps, ps, a, b)
  else none
/-- a round -/
def compR (P : Program) (k : Nat) : Option RF := do
  let (f, nt, ps, a, b) ← loopAt P k
  let A := comp P nt f a (k % 256 + 1)
  let B := comp P nt f b (k % 256 + 1 + (rngs a).length)
  let sv := svOf nt (slotsOf ps) A B
  if decide (nt < 1000000) && ps.toList.all (fun t => decide (t < nt)) then some (.r k sv.length sv (slotsOf ps) A B) else none
def compRes (P : Program) (nt : Nat) : ResultVar → Option RS
  | .tmp t => if t < nt then some (.t (pa 20 (t + 1))) else none
  | .cell a t => do
    let s ← szOf P t
    let g ← aggOf P t
    if a < nt then some (.c (pa 20 (a + 1)) g s) else none
def compF (P : Program) (f : Nat) : Option RF :=
  if f < BND then do
    let fn ← P.funcs[f]?
    let c ← fn.body
    let rs ← fn.results.toList.mapM (compRes P fn.ntmps)
    if known P f && decide (fn.ntmps < 1000000) && decide ((rngs c).length ≤ 256) then some (.f (fn.params.size + fn.nfree) (comp P fn.ntmps f c 0) rs) else none
  else compR P (f - BND)
end Go.Rn
