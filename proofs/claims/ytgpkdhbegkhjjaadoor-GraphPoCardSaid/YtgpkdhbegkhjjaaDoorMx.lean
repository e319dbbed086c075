/-
  What the functions that the law reaches do, one by one: contracts. Conditions: those that each of them prints.
-/
import Derived.Test.YtgpkdhbegkhjjaaDoorMw
import Derived.Orders
import Derived.WalkKit
import Derived.Deep.RegionLaw
namespace Go.Proofs.YtgpkdhbegkhjjaaDoor
open Go.RowKit RelA
def allB (f : Bool → Bool) : Bool := f true && f false
theorem allB_at {f : Bool → Bool} (h : allB f = true) (b : Bool) : f b = true := by
  unfold allB at h
  cases b <;> simp_all
section
variable {P : Program} {ops : Array Oper} {Q : Exit → Act → World → Prop} {md : Region.Mode}
/-- a region that draws its order, by what holds between its operations -/
theorem wpAny_inv {I : Nat → Array Bool → Act → World → Prop} {f : Nat}
    (hs : ∀ k L a w, I (k + 1) L a w → Region.ready md ops L ≠ [] ∧ ∀ i ∈ Region.ready md ops L, wpOp P ops Q i (fun a' w' => I k (L.setIfInBounds i true) a' w') a w)
    (hd : ∀ L a w, I 0 L a w → wpAny P md ops Q f L a w) : ∀ k L a w, I k L a w → wpAny P md ops Q (f + k) L a w
  | 0 => hd
  | k + 1 => fun L a w h => ⟨fun h0 => absurd h0 (hs k L a w h).1, fun i hi => wpOp_mono (fun a' w' h' => wpAny_inv hs hd k _ a' w' h') ((hs k L a w h).2 i hi)⟩
theorem wpOp_one {i : Nat} {o : Oper} {a : Act} {w : World} {K : Act → World → Prop} (hi : ops[i]? = some o) (hg : o.guard = none) (h : Oper.wp P o a w K Q) : wpOp P ops Q i K a w := by
  unfold wpOp
  have hw : Region.wanted o (yielded ops a.tmps) = true := by simp [Region.wanted, hg]
  simp only [hi, hw, if_true]
  exact .inl h
theorem appOp {o : Oper} {a : Act} {w w' : World} {v v' : Value} {x c : Nat} {K : Act → World → Prop} (s y : Operand) (t : TypeId)
    (ho : o.op = .call { callee := .builtin .append, args := #[s, y], argTypes := #[t, t] }) (hs : a.eval s = v) (hx : a.eval y = .slice (some ⟨x, 0, none⟩) 1 c)
    (hr : (Builtin.append_ #[t, t] o.type #[v, .slice (some ⟨x, 0, none⟩) 1 c]).run P w = .ok v' w') (h : K (a.put o.dst v') w') : Oper.wp P o a w K Q := by
  unfold Oper.wp execOp
  simp only [ho, resolve, invoke, builtin, Sem.run_bind, Sem.run_pure, Result.andThen_ok, List.map_toArray, List.map_cons, List.map_nil, hs, hx, hr]
  exact h
end
def ops14 : Array Oper := #[{ dst := some 62, op := Op.fieldAddr 28 (Operand.tmp 5) 1, type := 0, pos := "outright.go:67", after := #[], guard := none }, { dst := some 63, op := Op.load 24 (Operand.tmp 62), type := 24, pos := "outright.go:67", after := #[{ on := 0, ground := Ground.data }], guard := none }, { dst := some 64, op := Op.move (Operand.tmp 9), type := 3, pos := "outright.go:67", after := #[], guard := none }, { dst := some 65, op := Op.binOp BinOp.add 3 (Operand.tmp 64) (Operand.const (Value.int IntKind.i64 1)) 3, type := 3, pos := "outright.go:67", after := #[{ on := 2, ground := Ground.data }], guard := none }, { dst := some 66, op := Op.build 30 #[(0, Operand.tmp 65), (1, Operand.const (Value.int IntKind.i64 3)), (2, Operand.const (Value.int IntKind.i64 4))], type := 30, pos := "outright.go:67", after := #[{ on := 3, ground := Ground.data }], guard := none }, { dst := some 67, op := Op.buildSlice 24 1 #[(0, Operand.tmp 66)], type := 24, pos := "outright.go:67", after := #[{ on := 4, ground := Ground.data }], guard := none }, { dst := some 68, op := Op.call { callee := Callee.builtin Builtin.append, args := #[Operand.tmp 63, Operand.tmp 67], argTypes := #[24, 24] }, type := 24, pos := "outright.go:67", after := #[{ on := 1, ground := Ground.data }, { on := 5, ground := Ground.data }], guard := none }, { dst := some 69, op := Op.fieldAddr 28 (Operand.tmp 5) 2, type := 0, pos := "outright.go:67", after := #[], guard := none }, { dst := some 70, op := Op.load 22 (Operand.tmp 69), type := 22, pos := "outright.go:67", after := #[{ on := 7, ground := Ground.data }], guard := none }, { dst := some 71, op := Op.buildSlice 22 1 #[(0, Operand.const (Value.int IntKind.i64 (-1)))], type := 22, pos := "outright.go:67", after := #[], guard := none }, { dst := some 72, op := Op.call { callee := Callee.builtin Builtin.append, args := #[Operand.tmp 70, Operand.tmp 71], argTypes := #[22, 22] }, type := 22, pos := "outright.go:67", after := #[{ on := 8, ground := Ground.data }, { on := 9, ground := Ground.data }, { on := 6, ground := Ground.chain }], guard := none }, { dst := some 73, op := Op.fieldAddr 28 (Operand.tmp 5) 1, type := 0, pos := "outright.go:67", after := #[{ on := 0, ground := Ground.phase }, { on := 1, ground := Ground.phase }, { on := 2, ground := Ground.phase }, { on := 3, ground := Ground.phase }, { on := 4, ground := Ground.phase }, { on := 5, ground := Ground.phase }, { on := 6, ground := Ground.phase }, { on := 7, ground := Ground.phase }, { on := 8, ground := Ground.phase }, { on := 9, ground := Ground.textOnly Departure.lateStores }, { on := 10, ground := Ground.textOnly Departure.lateStoresUnsure }], guard := none }, { dst := none, op := Op.store 24 (Operand.tmp 73) (Operand.tmp 68), type := 0, pos := "outright.go:67", after := #[{ on := 11, ground := Ground.data }, { on := 6, ground := Ground.data }, { on := 10, ground := Ground.chain }, { on := 0, ground := Ground.phase }, { on := 1, ground := Ground.phase }, { on := 2, ground := Ground.phase }, { on := 3, ground := Ground.phase }, { on := 4, ground := Ground.phase }, { on := 5, ground := Ground.phase }, { on := 6, ground := Ground.phase }, { on := 7, ground := Ground.phase }, { on := 8, ground := Ground.phase }, { on := 9, ground := Ground.textOnly Departure.lateStores }, { on := 10, ground := Ground.textOnly Departure.lateStoresUnsure }], guard := none }, { dst := some 74, op := Op.fieldAddr 28 (Operand.tmp 5) 2, type := 0, pos := "outright.go:67", after := #[{ on := 0, ground := Ground.phase }, { on := 1, ground := Ground.phase }, { on := 2, ground := Ground.phase }, { on := 3, ground := Ground.phase }, { on := 4, ground := Ground.phase }, { on := 5, ground := Ground.phase }, { on := 6, ground := Ground.phase }, { on := 7, ground := Ground.phase }, { on := 8, ground := Ground.phase }, { on := 9, ground := Ground.phase }, { on := 10, ground := Ground.phase }, { on := 11, ground := Ground.phase }, { on := 12, ground := Ground.phase }], guard := none }, { dst := none, op := Op.store 22 (Operand.tmp 74) (Operand.tmp 72), type := 0, pos := "outright.go:67", after := #[{ on := 13, ground := Ground.data }, { on := 10, ground := Ground.data }, { on := 12, ground := Ground.chain }, { on := 0, ground := Ground.phase }, { on := 1, ground := Ground.phase }, { on := 2, ground := Ground.phase }, { on := 3, ground := Ground.phase }, { on := 4, ground := Ground.phase }, { on := 5, ground := Ground.phase }, { on := 6, ground := Ground.phase }, { on := 7, ground := Ground.phase }, { on := 8, ground := Ground.phase }, { on := 9, ground := Ground.phase }, { on := 10, ground := Ground.phase }, { on := 11, ground := Ground.phase }, { on := 12, ground := Ground.phase }], guard := none }]
def arr14 (b1 b5 b6 b8 b9 b10 b11 : Bool) : Array Bool := #[true, b1, true, true, true, b5, b6, true, b8, b9, b10, b11, false, false, false]
def con14 (b1 b5 b6 b8 b9 b10 b11 : Bool) : Bool := (!b6 || (b1 && b5)) && (!b10 || (b8 && b9 && b6)) && (!b11 || (b1 && b5 && b6 && b8))
def chk14 (b1 b5 b6 b8 b9 b10 b11 : Bool) : Bool :=
  let r := Region.ready .any ops14 (arr14 b1 b5 b6 b8 b9 b10 b11)
  !con14 b1 b5 b6 b8 b9 b10 b11 || (b1 && b5 && b6 && b8 && b9 && b10 && b11) || (!r.isEmpty && r.all fun i => match i with | 1 => !b1 | 5 => !b5 | 6 => b1 && b5 && !b6 | 8 => !b8 | 9 => !b9 | 10 => b8 && b9 && b6 && !b10 | 11 => b1 && b5 && b6 && b8 && !b11 | _ => false)
theorem rdy14' : (allB fun b1 => allB fun b5 => allB fun b6 => allB fun b8 => allB fun b9 => allB fun b10 => allB fun b11 => chk14 b1 b5 b6 b8 b9 b10 b11) = true := by kernel_rfl
theorem rdy14 (b1 b5 b6 b8 b9 b10 b11 : Bool) : chk14 b1 b5 b6 b8 b9 b10 b11 = true := allB_at (allB_at (allB_at (allB_at (allB_at (allB_at (allB_at rdy14' b1) b5) b6) b8) b9) b10) b11
namespace RelA
def evo (e : Ev) : Obj := .cells e.cs.toArray 30 (0, 0)
def into (x : Int) : Obj := .cells ([.int .i64 x] : List Value).toArray 3 (0, 0)
def lio (x : Nat) : Obj := .cells ([.slice (some ⟨x, 0, none⟩) 1 1] : List Value).toArray 22 (0, 0)
def barE (t : Int) : Ev := ⟨t + 1, 3, 4, 0, 0, false⟩
def nb (b : Bool) : Nat := bif b then 0 else 1
def I14 (w0 : World) (p : Nat) (locs t : Int) (v1 v2 v3 : Value) (E : List Ev) (R : List Int) (C : List Nat) (S : List (Nat × Obj)) (z0 z1 z2 z3 z4 z6 z7 z8 z10 z11 z12 z13 z14 z15 z16 z17 z18 z19 z20 z21 z22 z23 z24 z25 z26 z27 z28 z29 z30 z31 z32 z33 z34 z35 z36 z37 z38 z39 z40 z41 z42 z43 z44 z45 z46 z47 z48 z49 z50 z51 z52 z53 z54 z55 z56 z57 z58 z59 z60 z61 z63 z67 z68 z70 z71 z72 z73 z74 z75 z76 z77 z78 z79 z80 z81 z82 z83 z84 z85 z86 z87 z88 z89 z90 z91 z92 z93 z94 z95 z96 z97 z98 z99 z100 z101 z102 z103 z104 z105 z106 z107 z108 z109 z110 z111 z112 z113 z114 : Value) (k : Nat) (L : Array Bool) (a : Act) (w : World) : Prop :=
  ∃ (b1 b5 b6 b8 b9 b10 b11 : Bool) (x5 x9 : Nat) (v1' v2' : Value) (S' : List (Nat × Obj)), k = nb b1 + nb b5 + nb b6 + nb b8 + nb b9 + nb b10 + nb b11 ∧ L = arr14 b1 b5 b6 b8 b9 b10 b11 ∧
    a = { tmps := (z0 :: z1 :: z2 :: z3 :: z4 :: .pointer (some ⟨p, 0, none⟩) :: z6 :: z7 :: z8 :: .int .i64 t :: z10 :: z11 :: z12 :: z13 :: z14 :: z15 :: z16 :: z17 :: z18 :: z19 :: z20 :: z21 :: z22 :: z23 :: z24 :: z25 :: z26 :: z27 :: z28 :: z29 :: z30 :: z31 :: z32 :: z33 :: z34 :: z35 :: z36 :: z37 :: z38 :: z39 :: z40 :: z41 :: z42 :: z43 :: z44 :: z45 :: z46 :: z47 :: z48 :: z49 :: z50 :: z51 :: z52 :: z53 :: z54 :: z55 :: z56 :: z57 :: z58 :: z59 :: z60 :: z61 :: .pointer (some ⟨p, 1, none⟩) :: (bif b1 then v1 else z63) :: .int .i64 t :: .int .i64 (t + 1) :: .agg #[.int .i64 (t + 1), .int .i64 3, .int .i64 4, .int .i64 0, .int .i64 0, .bool false] :: (bif b5 then .slice (some ⟨x5, 0, none⟩) 1 1 else z67) :: (bif b6 then v1' else z68) :: .pointer (some ⟨p, 2, none⟩) :: (bif b8 then v2 else z70) :: (bif b9 then .slice (some ⟨x9, 0, none⟩) 1 1 else z71) :: (bif b10 then v2' else z72) :: (bif b11 then .pointer (some ⟨p, 1, none⟩) else z73) :: z74 :: z75 :: z76 :: z77 :: z78 :: z79 :: z80 :: z81 :: z82 :: z83 :: z84 :: z85 :: z86 :: z87 :: z88 :: z89 :: z90 :: z91 :: z92 :: z93 :: z94 :: z95 :: z96 :: z97 :: z98 :: z99 :: z100 :: z101 :: z102 :: z103 :: z104 :: z105 :: z106 :: z107 :: z108 :: z109 :: z110 :: z111 :: z112 :: z113 :: z114 :: []).toArray, defers := [] } ∧
    MB w0 w p locs (bif b6 then v1' else v1) (bif b10 then v2' else v2) v3 v1 v2 v3 (bif b6 then E ++ [barE t] else E) (bif b10 then R ++ [-1] else R) C S' ∧
    (b5 = true → (x5, evo (barE t)) ∈ S') ∧ (b9 = true → (x9, into (-1)) ∈ S') ∧ (∀ x ∈ S, x ∈ S') ∧ con14 b1 b5 b6 b8 b9 b10 b11 = true
end RelA
set_option maxRecDepth 100000 in
set_option maxHeartbeats 4000000 in
theorem step14 (w0 : World) (p : Nat) (locs t : Int) (v1 v2 v3 : Value) (E : List Ev) (R : List Int) (C : List Nat) (S : List (Nat × Obj)) (hE : E.length ≤ 100) (hR : R.length ≤ 100) (z0 z1 z2 z3 z4 z6 z7 z8 z10 z11 z12 z13 z14 z15 z16 z17 z18 z19 z20 z21 z22 z23 z24 z25 z26 z27 z28 z29 z30 z31 z32 z33 z34 z35 z36 z37 z38 z39 z40 z41 z42 z43 z44 z45 z46 z47 z48 z49 z50 z51 z52 z53 z54 z55 z56 z57 z58 z59 z60 z61 z63 z67 z68 z70 z71 z72 z73 z74 z75 z76 z77 z78 z79 z80 z81 z82 z83 z84 z85 z86 z87 z88 z89 z90 z91 z92 z93 z94 z95 z96 z97 z98 z99 z100 z101 z102 z103 z104 z105 z106 z107 z108 z109 z110 z111 z112 z113 z114 : Value) (Q : Exit → Act → World → Prop)
    (k : Nat) (L : Array Bool) (a : Act) (w : World) (h : I14 w0 p locs t v1 v2 v3 E R C S z0 z1 z2 z3 z4 z6 z7 z8 z10 z11 z12 z13 z14 z15 z16 z17 z18 z19 z20 z21 z22 z23 z24 z25 z26 z27 z28 z29 z30 z31 z32 z33 z34 z35 z36 z37 z38 z39 z40 z41 z42 z43 z44 z45 z46 z47 z48 z49 z50 z51 z52 z53 z54 z55 z56 z57 z58 z59 z60 z61 z63 z67 z68 z70 z71 z72 z73 z74 z75 z76 z77 z78 z79 z80 z81 z82 z83 z84 z85 z86 z87 z88 z89 z90 z91 z92 z93 z94 z95 z96 z97 z98 z99 z100 z101 z102 z103 z104 z105 z106 z107 z108 z109 z110 z111 z112 z113 z114 (k + 1) L a w) :
    Region.ready .any ops14 L ≠ [] ∧ ∀ i ∈ Region.ready .any ops14 L, wpOp Tryd.prog ops14 Q i (fun a' w' => I14 w0 p locs t v1 v2 v3 E R C S z0 z1 z2 z3 z4 z6 z7 z8 z10 z11 z12 z13 z14 z15 z16 z17 z18 z19 z20 z21 z22 z23 z24 z25 z26 z27 z28 z29 z30 z31 z32 z33 z34 z35 z36 z37 z38 z39 z40 z41 z42 z43 z44 z45 z46 z47 z48 z49 z50 z51 z52 z53 z54 z55 z56 z57 z58 z59 z60 z61 z63 z67 z68 z70 z71 z72 z73 z74 z75 z76 z77 z78 z79 z80 z81 z82 z83 z84 z85 z86 z87 z88 z89 z90 z91 z92 z93 z94 z95 z96 z97 z98 z99 z100 z101 z102 z103 z104 z105 z106 z107 z108 z109 z110 z111 z112 z113 z114 k (L.setIfInBounds i true) a' w') a w := by
  obtain ⟨b1, b5, b6, b8, b9, b10, b11, x5, x9, v1', v2', S', hk, rfl, rfl, hB, h5, h9, hS, hcon⟩ := h
  have hnt : nb true = 0 := rfl
  have hnf : nb false = 1 := rfl
  have hc := rdy14 b1 b5 b6 b8 b9 b10 b11
  unfold chk14 at hc
  have hn : (b1 && b5 && b6 && b8 && b9 && b10 && b11) = false := by
    cases hq : (b1 && b5 && b6 && b8 && b9 && b10 && b11) with
    | false => rfl
    | true =>
      simp only [Bool.and_eq_true] at hq
      obtain ⟨⟨⟨⟨⟨⟨rfl, rfl⟩, rfl⟩, rfl⟩, rfl⟩, rfl⟩, rfl⟩ := hq
      simp [nb] at hk
  rw [hn, hcon] at hc
  simp only [Bool.not_true, Bool.false_or, Bool.and_eq_true, List.all_eq_true, Bool.not_eq_true'] at hc
  refine ⟨fun h0 => by rw [h0] at hc; simp at hc, fun i hi => ?_⟩
  have hi2 := hc.2 i hi
  clear hc hi hn
  split at hi2
  · simp only [Bool.not_eq_true'] at hi2
    subst hi2
    obtain ⟨c1, _⟩ := hB.c1
    refine wpOp_one (o := { dst := some 63, op := Op.load 24 (Operand.tmp 62), type := 24, pos := "outright.go:67", after := #[{ on := 0, ground := Ground.data }], guard := none }) (by rfl) rfl ?_
    generalize hK : (fun a' w' => I14 w0 p locs t v1 v2 v3 E R C S z0 z1 z2 z3 z4 z6 z7 z8 z10 z11 z12 z13 z14 z15 z16 z17 z18 z19 z20 z21 z22 z23 z24 z25 z26 z27 z28 z29 z30 z31 z32 z33 z34 z35 z36 z37 z38 z39 z40 z41 z42 z43 z44 z45 z46 z47 z48 z49 z50 z51 z52 z53 z54 z55 z56 z57 z58 z59 z60 z61 z63 z67 z68 z70 z71 z72 z73 z74 z75 z76 z77 z78 z79 z80 z81 z82 z83 z84 z85 z86 z87 z88 z89 z90 z91 z92 z93 z94 z95 z96 z97 z98 z99 z100 z101 z102 z103 z104 z105 z106 z107 z108 z109 z110 z111 z112 z113 z114 k ((arr14 false b5 b6 b8 b9 b10 b11).setIfInBounds 1 true) a' w') = K
    unfold Oper.wp
    go_simp
    subst hK
    exact ⟨true, b5, b6, b8, b9, b10, b11, x5, x9, v1', v2', S', by omega, rfl, rfl, hB, h5, h9, hS, by first | exact hcon | (revert hcon; simp [con14] <;> (intros; simp_all))⟩
  · simp only [Bool.not_eq_true'] at hi2
    subst hi2
    refine wpOp_one (o := { dst := some 67, op := Op.buildSlice 24 1 #[(0, Operand.tmp 66)], type := 24, pos := "outright.go:67", after := #[{ on := 4, ground := Ground.data }], guard := none }) (by rfl) rfl ?_
    generalize hK : (fun a' w' => I14 w0 p locs t v1 v2 v3 E R C S z0 z1 z2 z3 z4 z6 z7 z8 z10 z11 z12 z13 z14 z15 z16 z17 z18 z19 z20 z21 z22 z23 z24 z25 z26 z27 z28 z29 z30 z31 z32 z33 z34 z35 z36 z37 z38 z39 z40 z41 z42 z43 z44 z45 z46 z47 z48 z49 z50 z51 z52 z53 z54 z55 z56 z57 z58 z59 z60 z61 z63 z67 z68 z70 z71 z72 z73 z74 z75 z76 z77 z78 z79 z80 z81 z82 z83 z84 z85 z86 z87 z88 z89 z90 z91 z92 z93 z94 z95 z96 z97 z98 z99 z100 z101 z102 z103 z104 z105 z106 z107 z108 z109 z110 z111 z112 z113 z114 k ((arr14 b1 false b6 b8 b9 b10 b11).setIfInBounds 5 true) a' w') = K
    unfold Oper.wp
    go_simp
    subst hK
    exact ⟨b1, true, b6, b8, b9, b10, b11, w.heap.size, x9, v1', v2', _, by omega, rfl, rfl, hB.alloc (evo (barE t)), fun _ => List.mem_cons_self .., fun q => List.mem_cons_of_mem _ (h9 q), fun x hx => List.mem_cons_of_mem _ (hS x hx), by first | exact hcon | (revert hcon; simp [con14] <;> (intros; simp_all))⟩
  · simp only [Bool.and_eq_true, Bool.not_eq_true'] at hi2
    obtain ⟨⟨rfl, rfl⟩, rfl⟩ := hi2
    obtain ⟨v', W', hr, hB'⟩ := hB.app1 (barE t) x5 1 24 (0, 0) (h5 rfl) hE
    refine wpOp_one (o := { dst := some 68, op := Op.call { callee := Callee.builtin Builtin.append, args := #[Operand.tmp 63, Operand.tmp 67], argTypes := #[24, 24] }, type := 24, pos := "outright.go:67", after := #[{ on := 1, ground := Ground.data }, { on := 5, ground := Ground.data }], guard := none }) (by rfl) rfl ?_
    generalize hK : (fun a' w' => I14 w0 p locs t v1 v2 v3 E R C S z0 z1 z2 z3 z4 z6 z7 z8 z10 z11 z12 z13 z14 z15 z16 z17 z18 z19 z20 z21 z22 z23 z24 z25 z26 z27 z28 z29 z30 z31 z32 z33 z34 z35 z36 z37 z38 z39 z40 z41 z42 z43 z44 z45 z46 z47 z48 z49 z50 z51 z52 z53 z54 z55 z56 z57 z58 z59 z60 z61 z63 z67 z68 z70 z71 z72 z73 z74 z75 z76 z77 z78 z79 z80 z81 z82 z83 z84 z85 z86 z87 z88 z89 z90 z91 z92 z93 z94 z95 z96 z97 z98 z99 z100 z101 z102 z103 z104 z105 z106 z107 z108 z109 z110 z111 z112 z113 z114 k ((arr14 true true false b8 b9 b10 b11).setIfInBounds 6 true) a' w') = K
    refine appOp (Operand.tmp 63) (Operand.tmp 67) 24 rfl (by kernel_rfl) (by kernel_rfl) hr ?_
    subst hK
    exact ⟨true, true, true, b8, b9, b10, b11, x5, x9, v', v2', S', by omega, rfl, rfl, hB', h5, h9, hS, by first | exact hcon | (revert hcon; simp [con14] <;> (intros; simp_all))⟩
  · simp only [Bool.not_eq_true'] at hi2
    subst hi2
    obtain ⟨c1, _⟩ := hB.c2
    refine wpOp_one (o := { dst := some 70, op := Op.load 22 (Operand.tmp 69), type := 22, pos := "outright.go:67", after := #[{ on := 7, ground := Ground.data }], guard := none }) (by rfl) rfl ?_
    generalize hK : (fun a' w' => I14 w0 p locs t v1 v2 v3 E R C S z0 z1 z2 z3 z4 z6 z7 z8 z10 z11 z12 z13 z14 z15 z16 z17 z18 z19 z20 z21 z22 z23 z24 z25 z26 z27 z28 z29 z30 z31 z32 z33 z34 z35 z36 z37 z38 z39 z40 z41 z42 z43 z44 z45 z46 z47 z48 z49 z50 z51 z52 z53 z54 z55 z56 z57 z58 z59 z60 z61 z63 z67 z68 z70 z71 z72 z73 z74 z75 z76 z77 z78 z79 z80 z81 z82 z83 z84 z85 z86 z87 z88 z89 z90 z91 z92 z93 z94 z95 z96 z97 z98 z99 z100 z101 z102 z103 z104 z105 z106 z107 z108 z109 z110 z111 z112 z113 z114 k ((arr14 b1 b5 b6 false b9 b10 b11).setIfInBounds 8 true) a' w') = K
    unfold Oper.wp
    go_simp
    subst hK
    exact ⟨b1, b5, b6, true, b9, b10, b11, x5, x9, v1', v2', S', by omega, rfl, rfl, hB, h5, h9, hS, by first | exact hcon | (revert hcon; simp [con14] <;> (intros; simp_all))⟩
  · simp only [Bool.not_eq_true'] at hi2
    subst hi2
    refine wpOp_one (o := { dst := some 71, op := Op.buildSlice 22 1 #[(0, Operand.const (Value.int IntKind.i64 (-1)))], type := 22, pos := "outright.go:67", after := #[], guard := none }) (by rfl) rfl ?_
    generalize hK : (fun a' w' => I14 w0 p locs t v1 v2 v3 E R C S z0 z1 z2 z3 z4 z6 z7 z8 z10 z11 z12 z13 z14 z15 z16 z17 z18 z19 z20 z21 z22 z23 z24 z25 z26 z27 z28 z29 z30 z31 z32 z33 z34 z35 z36 z37 z38 z39 z40 z41 z42 z43 z44 z45 z46 z47 z48 z49 z50 z51 z52 z53 z54 z55 z56 z57 z58 z59 z60 z61 z63 z67 z68 z70 z71 z72 z73 z74 z75 z76 z77 z78 z79 z80 z81 z82 z83 z84 z85 z86 z87 z88 z89 z90 z91 z92 z93 z94 z95 z96 z97 z98 z99 z100 z101 z102 z103 z104 z105 z106 z107 z108 z109 z110 z111 z112 z113 z114 k ((arr14 b1 b5 b6 b8 false b10 b11).setIfInBounds 9 true) a' w') = K
    unfold Oper.wp
    go_simp
    subst hK
    exact ⟨b1, b5, b6, b8, true, b10, b11, x5, w.heap.size, v1', v2', _, by omega, rfl, rfl, hB.alloc (into (-1)), fun q => List.mem_cons_of_mem _ (h5 q), fun _ => List.mem_cons_self .., fun x hx => List.mem_cons_of_mem _ (hS x hx), by first | exact hcon | (revert hcon; simp [con14] <;> (intros; simp_all))⟩
  · simp only [Bool.and_eq_true, Bool.not_eq_true'] at hi2
    obtain ⟨⟨⟨rfl, rfl⟩, rfl⟩, rfl⟩ := hi2
    obtain ⟨v', W', hr, hB'⟩ := hB.app2 (-1) x9 1 22 (0, 0) (h9 rfl) hR
    refine wpOp_one (o := { dst := some 72, op := Op.call { callee := Callee.builtin Builtin.append, args := #[Operand.tmp 70, Operand.tmp 71], argTypes := #[22, 22] }, type := 22, pos := "outright.go:67", after := #[{ on := 8, ground := Ground.data }, { on := 9, ground := Ground.data }, { on := 6, ground := Ground.chain }], guard := none }) (by rfl) rfl ?_
    generalize hK : (fun a' w' => I14 w0 p locs t v1 v2 v3 E R C S z0 z1 z2 z3 z4 z6 z7 z8 z10 z11 z12 z13 z14 z15 z16 z17 z18 z19 z20 z21 z22 z23 z24 z25 z26 z27 z28 z29 z30 z31 z32 z33 z34 z35 z36 z37 z38 z39 z40 z41 z42 z43 z44 z45 z46 z47 z48 z49 z50 z51 z52 z53 z54 z55 z56 z57 z58 z59 z60 z61 z63 z67 z68 z70 z71 z72 z73 z74 z75 z76 z77 z78 z79 z80 z81 z82 z83 z84 z85 z86 z87 z88 z89 z90 z91 z92 z93 z94 z95 z96 z97 z98 z99 z100 z101 z102 z103 z104 z105 z106 z107 z108 z109 z110 z111 z112 z113 z114 k ((arr14 b1 b5 true true true false b11).setIfInBounds 10 true) a' w') = K
    refine appOp (Operand.tmp 70) (Operand.tmp 71) 22 rfl (by kernel_rfl) (by kernel_rfl) hr ?_
    subst hK
    exact ⟨b1, b5, true, true, true, true, b11, x5, x9, v1', v', S', by omega, rfl, rfl, hB', h5, h9, hS, by first | exact hcon | (revert hcon; simp [con14] <;> (intros; simp_all))⟩
  · simp only [Bool.and_eq_true, Bool.not_eq_true'] at hi2
    obtain ⟨⟨⟨⟨rfl, rfl⟩, rfl⟩, rfl⟩, rfl⟩ := hi2
    refine wpOp_one (o := { dst := some 73, op := Op.fieldAddr 28 (Operand.tmp 5) 1, type := 0, pos := "outright.go:67", after := #[{ on := 0, ground := Ground.phase }, { on := 1, ground := Ground.phase }, { on := 2, ground := Ground.phase }, { on := 3, ground := Ground.phase }, { on := 4, ground := Ground.phase }, { on := 5, ground := Ground.phase }, { on := 6, ground := Ground.phase }, { on := 7, ground := Ground.phase }, { on := 8, ground := Ground.phase }, { on := 9, ground := Ground.textOnly Departure.lateStores }, { on := 10, ground := Ground.textOnly Departure.lateStoresUnsure }], guard := none }) (by rfl) rfl ?_
    generalize hK : (fun a' w' => I14 w0 p locs t v1 v2 v3 E R C S z0 z1 z2 z3 z4 z6 z7 z8 z10 z11 z12 z13 z14 z15 z16 z17 z18 z19 z20 z21 z22 z23 z24 z25 z26 z27 z28 z29 z30 z31 z32 z33 z34 z35 z36 z37 z38 z39 z40 z41 z42 z43 z44 z45 z46 z47 z48 z49 z50 z51 z52 z53 z54 z55 z56 z57 z58 z59 z60 z61 z63 z67 z68 z70 z71 z72 z73 z74 z75 z76 z77 z78 z79 z80 z81 z82 z83 z84 z85 z86 z87 z88 z89 z90 z91 z92 z93 z94 z95 z96 z97 z98 z99 z100 z101 z102 z103 z104 z105 z106 z107 z108 z109 z110 z111 z112 z113 z114 k ((arr14 true true true true b9 b10 false).setIfInBounds 11 true) a' w') = K
    unfold Oper.wp
    go_simp
    subst hK
    exact ⟨true, true, true, true, b9, b10, true, x5, x9, v1', v2', S', by omega, rfl, rfl, hB, h5, h9, hS, by first | exact hcon | (revert hcon; simp [con14] <;> (intros; simp_all))⟩
  · cases hi2
theorem nb0 : ∀ b : Bool, nb b = 0 → b = true := by decide
set_option maxRecDepth 100000 in
set_option maxHeartbeats 4000000 in
theorem region14_l (w0 w : World) (p : Nat) (locs t : Int) (v1 v2 v3 : Value) (E : List Ev) (R : List Int) (C : List Nat) (S : List (Nat × Obj)) (h : MB w0 w p locs v1 v2 v3 v1 v2 v3 E R C S) (hE : E.length ≤ 100) (hR : R.length ≤ 100) (ht0 : 0 ≤ t) (ht : t ≤ 100) (z0 z1 z2 z3 z4 z6 z7 z8 z10 z11 z12 z13 z14 z15 z16 z17 z18 z19 z20 z21 z22 z23 z24 z25 z26 z27 z28 z29 z30 z31 z32 z33 z34 z35 z36 z37 z38 z39 z40 z41 z42 z43 z44 z45 z46 z47 z48 z49 z50 z51 z52 z53 z54 z55 z56 z57 z58 z59 z60 z61 z62 z63 z64 z65 z66 z67 z68 z69 z70 z71 z72 z73 z74 z75 z76 z77 z78 z79 z80 z81 z82 z83 z84 z85 z86 z87 z88 z89 z90 z91 z92 z93 z94 z95 z96 z97 z98 z99 z100 z101 z102 z103 z104 z105 z106 z107 z108 z109 z110 z111 z112 z113 z114 : Value) (Q : Exit → Act → World → Prop)
    (hQp : ∀ c (a : Act) (d : Tmp) v w, Q (.panic c) (a.put (some d) v) w → Q (.panic c) a w)
    (hQ : ∀ (y62 y63 y64 y65 y66 y67 y68 y69 y70 y71 y72 y73 y74 v1' v2' : Value) (S' : List (Nat × Obj)) (W' : World), MB w0 W' p locs v1' v2' v3 v1' v2' v3 (E ++ [barE t]) (R ++ [-1]) C S' → (∀ x ∈ S, x ∈ S') → Q .normal { tmps := (z0 :: z1 :: z2 :: z3 :: z4 :: .pointer (some ⟨p, 0, none⟩) :: z6 :: z7 :: z8 :: .int .i64 t :: z10 :: z11 :: z12 :: z13 :: z14 :: z15 :: z16 :: z17 :: z18 :: z19 :: z20 :: z21 :: z22 :: z23 :: z24 :: z25 :: z26 :: z27 :: z28 :: z29 :: z30 :: z31 :: z32 :: z33 :: z34 :: z35 :: z36 :: z37 :: z38 :: z39 :: z40 :: z41 :: z42 :: z43 :: z44 :: z45 :: z46 :: z47 :: z48 :: z49 :: z50 :: z51 :: z52 :: z53 :: z54 :: z55 :: z56 :: z57 :: z58 :: z59 :: z60 :: z61 :: y62 :: y63 :: y64 :: y65 :: y66 :: y67 :: y68 :: y69 :: y70 :: y71 :: y72 :: y73 :: y74 :: z75 :: z76 :: z77 :: z78 :: z79 :: z80 :: z81 :: z82 :: z83 :: z84 :: z85 :: z86 :: z87 :: z88 :: z89 :: z90 :: z91 :: z92 :: z93 :: z94 :: z95 :: z96 :: z97 :: z98 :: z99 :: z100 :: z101 :: z102 :: z103 :: z104 :: z105 :: z106 :: z107 :: z108 :: z109 :: z110 :: z111 :: z112 :: z113 :: z114 :: []).toArray, defers := [] } W') :
    Code.wp Tryd.prog (Code.region 14 #[{ dst := some 62, op := Op.fieldAddr 28 (Operand.tmp 5) 1, type := 0, pos := "outright.go:67", after := #[], guard := none }, { dst := some 63, op := Op.load 24 (Operand.tmp 62), type := 24, pos := "outright.go:67", after := #[{ on := 0, ground := Ground.data }], guard := none }, { dst := some 64, op := Op.move (Operand.tmp 9), type := 3, pos := "outright.go:67", after := #[], guard := none }, { dst := some 65, op := Op.binOp BinOp.add 3 (Operand.tmp 64) (Operand.const (Value.int IntKind.i64 1)) 3, type := 3, pos := "outright.go:67", after := #[{ on := 2, ground := Ground.data }], guard := none }, { dst := some 66, op := Op.build 30 #[(0, Operand.tmp 65), (1, Operand.const (Value.int IntKind.i64 3)), (2, Operand.const (Value.int IntKind.i64 4))], type := 30, pos := "outright.go:67", after := #[{ on := 3, ground := Ground.data }], guard := none }, { dst := some 67, op := Op.buildSlice 24 1 #[(0, Operand.tmp 66)], type := 24, pos := "outright.go:67", after := #[{ on := 4, ground := Ground.data }], guard := none }, { dst := some 68, op := Op.call { callee := Callee.builtin Builtin.append, args := #[Operand.tmp 63, Operand.tmp 67], argTypes := #[24, 24] }, type := 24, pos := "outright.go:67", after := #[{ on := 1, ground := Ground.data }, { on := 5, ground := Ground.data }], guard := none }, { dst := some 69, op := Op.fieldAddr 28 (Operand.tmp 5) 2, type := 0, pos := "outright.go:67", after := #[], guard := none }, { dst := some 70, op := Op.load 22 (Operand.tmp 69), type := 22, pos := "outright.go:67", after := #[{ on := 7, ground := Ground.data }], guard := none }, { dst := some 71, op := Op.buildSlice 22 1 #[(0, Operand.const (Value.int IntKind.i64 (-1)))], type := 22, pos := "outright.go:67", after := #[], guard := none }, { dst := some 72, op := Op.call { callee := Callee.builtin Builtin.append, args := #[Operand.tmp 70, Operand.tmp 71], argTypes := #[22, 22] }, type := 22, pos := "outright.go:67", after := #[{ on := 8, ground := Ground.data }, { on := 9, ground := Ground.data }, { on := 6, ground := Ground.chain }], guard := none }, { dst := some 73, op := Op.fieldAddr 28 (Operand.tmp 5) 1, type := 0, pos := "outright.go:67", after := #[{ on := 0, ground := Ground.phase }, { on := 1, ground := Ground.phase }, { on := 2, ground := Ground.phase }, { on := 3, ground := Ground.phase }, { on := 4, ground := Ground.phase }, { on := 5, ground := Ground.phase }, { on := 6, ground := Ground.phase }, { on := 7, ground := Ground.phase }, { on := 8, ground := Ground.phase }, { on := 9, ground := Ground.textOnly Departure.lateStores }, { on := 10, ground := Ground.textOnly Departure.lateStoresUnsure }], guard := none }, { dst := none, op := Op.store 24 (Operand.tmp 73) (Operand.tmp 68), type := 0, pos := "outright.go:67", after := #[{ on := 11, ground := Ground.data }, { on := 6, ground := Ground.data }, { on := 10, ground := Ground.chain }, { on := 0, ground := Ground.phase }, { on := 1, ground := Ground.phase }, { on := 2, ground := Ground.phase }, { on := 3, ground := Ground.phase }, { on := 4, ground := Ground.phase }, { on := 5, ground := Ground.phase }, { on := 6, ground := Ground.phase }, { on := 7, ground := Ground.phase }, { on := 8, ground := Ground.phase }, { on := 9, ground := Ground.textOnly Departure.lateStores }, { on := 10, ground := Ground.textOnly Departure.lateStoresUnsure }], guard := none }, { dst := some 74, op := Op.fieldAddr 28 (Operand.tmp 5) 2, type := 0, pos := "outright.go:67", after := #[{ on := 0, ground := Ground.phase }, { on := 1, ground := Ground.phase }, { on := 2, ground := Ground.phase }, { on := 3, ground := Ground.phase }, { on := 4, ground := Ground.phase }, { on := 5, ground := Ground.phase }, { on := 6, ground := Ground.phase }, { on := 7, ground := Ground.phase }, { on := 8, ground := Ground.phase }, { on := 9, ground := Ground.phase }, { on := 10, ground := Ground.phase }, { on := 11, ground := Ground.phase }, { on := 12, ground := Ground.phase }], guard := none }, { dst := none, op := Op.store 22 (Operand.tmp 74) (Operand.tmp 72), type := 0, pos := "outright.go:67", after := #[{ on := 13, ground := Ground.data }, { on := 10, ground := Ground.data }, { on := 12, ground := Ground.chain }, { on := 0, ground := Ground.phase }, { on := 1, ground := Ground.phase }, { on := 2, ground := Ground.phase }, { on := 3, ground := Ground.phase }, { on := 4, ground := Ground.phase }, { on := 5, ground := Ground.phase }, { on := 6, ground := Ground.phase }, { on := 7, ground := Ground.phase }, { on := 8, ground := Ground.phase }, { on := 9, ground := Ground.phase }, { on := 10, ground := Ground.phase }, { on := 11, ground := Ground.phase }, { on := 12, ground := Ground.phase }], guard := none }] true) Q { tmps := (z0 :: z1 :: z2 :: z3 :: z4 :: .pointer (some ⟨p, 0, none⟩) :: z6 :: z7 :: z8 :: .int .i64 t :: z10 :: z11 :: z12 :: z13 :: z14 :: z15 :: z16 :: z17 :: z18 :: z19 :: z20 :: z21 :: z22 :: z23 :: z24 :: z25 :: z26 :: z27 :: z28 :: z29 :: z30 :: z31 :: z32 :: z33 :: z34 :: z35 :: z36 :: z37 :: z38 :: z39 :: z40 :: z41 :: z42 :: z43 :: z44 :: z45 :: z46 :: z47 :: z48 :: z49 :: z50 :: z51 :: z52 :: z53 :: z54 :: z55 :: z56 :: z57 :: z58 :: z59 :: z60 :: z61 :: z62 :: z63 :: z64 :: z65 :: z66 :: z67 :: z68 :: z69 :: z70 :: z71 :: z72 :: z73 :: z74 :: z75 :: z76 :: z77 :: z78 :: z79 :: z80 :: z81 :: z82 :: z83 :: z84 :: z85 :: z86 :: z87 :: z88 :: z89 :: z90 :: z91 :: z92 :: z93 :: z94 :: z95 :: z96 :: z97 :: z98 :: z99 :: z100 :: z101 :: z102 :: z103 :: z104 :: z105 :: z106 :: z107 :: z108 :: z109 :: z110 :: z111 :: z112 :: z113 :: z114 :: []).toArray, defers := [] } w := by
  refine wp_region_any (by kernel_rfl) ?_
  have hB := h.drew
  change wpAny _ _ _ _ _ _ _ (World.drew _)
  generalize World.drew w = W at hB ⊢
  clear h
  have hwr : IntKind.i64.wrap (t + 1) = t + 1 := IntWalk.i64_in _ (by omega)
  refine wpAny_take (i := 0) (v := .pointer (some ⟨p, 1, none⟩)) rfl (by kernel_rfl) (by kernel_rfl) (by kernel_rfl) (fun c a w => hQp c a _ _ w) (Or.inl ⟨by rfl, ?_⟩) ?_
  · intro w
    go_simp
  refine wpAny_take (i := 2) (v := .int .i64 t) rfl (by kernel_rfl) (by kernel_rfl) (by kernel_rfl) (fun c a w => hQp c a _ _ w) (Or.inl ⟨by rfl, ?_⟩) ?_
  · intro w
    go_simp
  refine wpAny_take (i := 3) (v := .int .i64 (t + 1)) rfl (by kernel_rfl) (by kernel_rfl) (by kernel_rfl) (fun c a w => hQp c a _ _ w) (Or.inl ⟨by rfl, ?_⟩) ?_
  · intro w
    go_simp
  refine wpAny_take (i := 4) (v := .agg #[.int .i64 (t + 1), .int .i64 3, .int .i64 4, .int .i64 0, .int .i64 0, .bool false]) rfl (by kernel_rfl) (by kernel_rfl) (by kernel_rfl) (fun c a w => hQp c a _ _ w) (Or.inl ⟨by rfl, ?_⟩) ?_
  · intro w
    go_simp
  refine wpAny_take (i := 7) (v := .pointer (some ⟨p, 2, none⟩)) rfl (by kernel_rfl) (by kernel_rfl) (by kernel_rfl) (fun c a w => hQp c a _ _ w) (Or.inl ⟨by rfl, ?_⟩) ?_
  · intro w
    go_simp
  show wpAny _ _ ops14 _ (3 + 7) _ _ _
  refine wpAny_inv (I := I14 w0 p locs t v1 v2 v3 E R C S z0 z1 z2 z3 z4 z6 z7 z8 z10 z11 z12 z13 z14 z15 z16 z17 z18 z19 z20 z21 z22 z23 z24 z25 z26 z27 z28 z29 z30 z31 z32 z33 z34 z35 z36 z37 z38 z39 z40 z41 z42 z43 z44 z45 z46 z47 z48 z49 z50 z51 z52 z53 z54 z55 z56 z57 z58 z59 z60 z61 z63 z67 z68 z70 z71 z72 z73 z74 z75 z76 z77 z78 z79 z80 z81 z82 z83 z84 z85 z86 z87 z88 z89 z90 z91 z92 z93 z94 z95 z96 z97 z98 z99 z100 z101 z102 z103 z104 z105 z106 z107 z108 z109 z110 z111 z112 z113 z114) (fun k L a w => step14 w0 p locs t v1 v2 v3 E R C S hE hR z0 z1 z2 z3 z4 z6 z7 z8 z10 z11 z12 z13 z14 z15 z16 z17 z18 z19 z20 z21 z22 z23 z24 z25 z26 z27 z28 z29 z30 z31 z32 z33 z34 z35 z36 z37 z38 z39 z40 z41 z42 z43 z44 z45 z46 z47 z48 z49 z50 z51 z52 z53 z54 z55 z56 z57 z58 z59 z60 z61 z63 z67 z68 z70 z71 z72 z73 z74 z75 z76 z77 z78 z79 z80 z81 z82 z83 z84 z85 z86 z87 z88 z89 z90 z91 z92 z93 z94 z95 z96 z97 z98 z99 z100 z101 z102 z103 z104 z105 z106 z107 z108 z109 z110 z111 z112 z113 z114 Q k L a w) ?_ 7 _ _ _ ⟨false, false, false, false, false, false, false, 0, 0, v1, v2, S, rfl, by kernel_rfl, rfl, hB, (fun q => by cases q), (fun q => by cases q), fun x hx => hx, by rfl⟩
  clear hB
  rintro L a w ⟨b1, b5, b6, b8, b9, b10, b11, x5, x9, v1', v2', S', hk, rfl, rfl, hB, -, -, hS, -⟩
  obtain ⟨rfl, rfl, rfl, rfl, rfl, rfl, rfl⟩ : b1 = true ∧ b5 = true ∧ b6 = true ∧ b8 = true ∧ b9 = true ∧ b10 = true ∧ b11 = true := ⟨nb0 _ (by omega), nb0 _ (by omega), nb0 _ (by omega), nb0 _ (by omega), nb0 _ (by omega), nb0 _ (by omega), nb0 _ (by omega)⟩
  clear hk
  replace hB : MB w0 w p locs v1' v2' v3 v1 v2 v3 (E ++ [barE t]) (R ++ [-1]) C S' := hB
  obtain ⟨pa1, pc1, e1⟩ := own_len hB.o1
  obtain ⟨pa2, pc2, e2⟩ := own_len hB.o2
  rw [show (E ++ [barE t]).length = E.length + 1 by simp] at e1
  rw [show (R ++ [(-1 : Int)]).length = R.length + 1 by simp] at e2
  subst e1
  subst e2
  refine wpAny_all (rs := [12]) (by kernel_rfl) (by simp) ?_
  intro i hi
  simp only [List.mem_singleton] at hi
  subst hi
  refine wpOp_one (o := { dst := none, op := Op.store 24 (Operand.tmp 73) (Operand.tmp 68), type := 0, pos := "outright.go:67", after := #[{ on := 11, ground := Ground.data }, { on := 6, ground := Ground.data }, { on := 10, ground := Ground.chain }, { on := 0, ground := Ground.phase }, { on := 1, ground := Ground.phase }, { on := 2, ground := Ground.phase }, { on := 3, ground := Ground.phase }, { on := 4, ground := Ground.phase }, { on := 5, ground := Ground.phase }, { on := 6, ground := Ground.phase }, { on := 7, ground := Ground.phase }, { on := 8, ground := Ground.phase }, { on := 9, ground := Ground.textOnly Departure.lateStores }, { on := 10, ground := Ground.textOnly Departure.lateStoresUnsure }], guard := none }) (by rfl) rfl ?_
  obtain ⟨c1, d1⟩ := hB.c1
  unfold Oper.wp
  go_simp
  refine wpAny_all (rs := [13]) (by kernel_rfl) (by simp) ?_
  intro i hi
  simp only [List.mem_singleton] at hi
  subst hi
  refine wpOp_one (o := { dst := some 74, op := Op.fieldAddr 28 (Operand.tmp 5) 2, type := 0, pos := "outright.go:67", after := #[{ on := 0, ground := Ground.phase }, { on := 1, ground := Ground.phase }, { on := 2, ground := Ground.phase }, { on := 3, ground := Ground.phase }, { on := 4, ground := Ground.phase }, { on := 5, ground := Ground.phase }, { on := 6, ground := Ground.phase }, { on := 7, ground := Ground.phase }, { on := 8, ground := Ground.phase }, { on := 9, ground := Ground.phase }, { on := 10, ground := Ground.phase }, { on := 11, ground := Ground.phase }, { on := 12, ground := Ground.phase }], guard := none }) (by rfl) rfl ?_
  unfold Oper.wp
  go_simp
  refine wpAny_all (rs := [14]) (by kernel_rfl) (by simp) ?_
  intro i hi
  simp only [List.mem_singleton] at hi
  subst hi
  refine wpOp_one (o := { dst := none, op := Op.store 22 (Operand.tmp 74) (Operand.tmp 72), type := 0, pos := "outright.go:67", after := #[{ on := 13, ground := Ground.data }, { on := 10, ground := Ground.data }, { on := 12, ground := Ground.chain }, { on := 0, ground := Ground.phase }, { on := 1, ground := Ground.phase }, { on := 2, ground := Ground.phase }, { on := 3, ground := Ground.phase }, { on := 4, ground := Ground.phase }, { on := 5, ground := Ground.phase }, { on := 6, ground := Ground.phase }, { on := 7, ground := Ground.phase }, { on := 8, ground := Ground.phase }, { on := 9, ground := Ground.phase }, { on := 10, ground := Ground.phase }, { on := 11, ground := Ground.phase }, { on := 12, ground := Ground.phase }], guard := none }) (by rfl) rfl ?_
  have hB2 := hB.set1 (.slice pa1 (E.length + 1) pc1)
  obtain ⟨c2, d2⟩ := hB2.c2
  unfold Oper.wp
  go_simp
  refine wpAny_done (by kernel_rfl) ?_ _
  exact hQ _ _ _ _ _ _ _ _ _ _ _ _ _ _ _ _ _ (hB2.set2 (.slice pa2 (R.length + 1) pc2)) hS
end Go.Proofs.YtgpkdhbegkhjjaaDoor
