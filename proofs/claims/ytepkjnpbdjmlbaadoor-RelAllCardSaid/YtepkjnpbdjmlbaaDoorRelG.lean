import Derived.Test.YtepkjnpbdjmlbaaDoorRelF
import Derived.BigRegion
namespace Go.Proofs.YtepkjnpbdjmlbaaDoor
open Go.RowKit RelA

namespace RelA
/-- the rows that stand at block b, whatever they are -/
def rowsW (w : World) (b : Nat) : Array Value := match w.heap[b]? with | some (.cells cs _ _) => cs.extract 1 41 | _ => #[]
/-- a relation's object stands at block b -/
def RelIs (w : World) (b : Nat) : Prop := ∃ n R, At w b n R
theorem At.is {w : World} {b n : Nat} {R : Nat → Nat} (h : At w b n R) : RelIs w b := ⟨n, R, h⟩
theorem At.rows {w : World} {b n : Nat} {R : Nat → Nat} (h : At w b n R) : rowsW w b = rowsOf R := by
  unfold rowsW
  rw [h]
  show (cells n R).extract 1 41 = rowsOf R
  unfold cells rowsOf
  apply Array.ext'
  rw [Array.toList_extract]
  show List.take 40 (List.map (fun i => Value.int IntKind.u64 (R i : Int)) (List.range 40)) = _
  rw [List.take_of_length_le (by simp)]
theorem run_loadAt_rows (w : World) (b : Nat) (h : RelIs w b) : (Instr.loadAt 50 (.pointer (some ⟨b, 1, none⟩))).run Tryd.prog w = .ok (.agg (rowsW w b)) w := by
  obtain ⟨n, R, h⟩ := h
  rw [h.rows]
  simp only [Instr.loadAt, Instr.sureAddr, Sem.run_bind, Sem.run_pure, Result.andThen_ok, run_loadVar_rows h]
/-- the loading of the rows, under a name that the walk does not open -/
def loadRows (v : Value) : Sem Next := execOp (fun _ => v) { dst := none, op := .load 50 (.tmp 0), type := 50, pos := "", after := #[], guard := none }
theorem execOp_load_rows (a : Act) (dst : Option Tmp) (x : Operand) (ty : TypeId) (pos : String) (after : Array Edge) (guard : Option (Nat × Bool)) :
    execOp a.eval { dst, op := .load 50 x, type := ty, pos, after, guard } = loadRows (a.eval x) := rfl
theorem run_loadRows (w : World) (b : Nat) (h : RelIs w b) : (loadRows (.pointer (some ⟨b, 1, none⟩))).run Tryd.prog w = .ok (.value (.agg (rowsW w b))) w := by
  show ((Instr.loadAt 50 (.pointer (some ⟨b, 1, none⟩))) >>= fun v => pure (Next.value v)).run Tryd.prog w = _
  rw [Sem.run_bind, run_loadAt_rows w b h]
  rfl
/-- are two arrays of rows the same? -/
def IsRows (xs : Array Value) : Prop := ∃ R, xs = rowsOf R
theorem At.isRows {w : World} {b n : Nat} {R : Nat → Nat} (h : At w b n R) : IsRows (rowsW w b) := ⟨R, h.rows⟩
def numOf : Value → Int | .int _ n => n | _ => 0
def rowsEq (xs ys : Array Value) : Bool := (List.range 40).all fun i => numOf (xs.getD i undef) == numOf (ys.getD i undef)
def eqIdx (d : Nat) (elem : TypeId) (n : Nat) (xs ys : Array Value) : List Nat → Sem Bool
  | [] => pure true
  | i :: is => do
    let a ← part elem xs (i * n)
    let b ← part elem ys (i * n)
    let r ← Op.equalIn d elem a b
    if (!r) = true then pure false else eqIdx d elem n xs ys is
theorem parts_at (R S : Nat → Nat) (w : World) (d i : Nat) (hi : i < 40) : (part 48 (rowsOf R) (i * 1)).run Tryd.prog w = .ok (.int .u64 (R i)) w ∧
    (part 48 (rowsOf S) (i * 1)).run Tryd.prog w = .ok (.int .u64 (S i)) w ∧ (Op.equalIn (d + 1) 48 (.int .u64 (R i)) (.int .u64 (S i))).run Tryd.prog w = .ok ((R i : Int) == (S i : Int)) w := by
  have hu : Tryd.prog.underlying 48 = some (.int .u64) := by kernel_rfl
  refine ⟨?_, ?_, run_equalIn_int (P := Tryd.prog) w d 48 .u64 .u64 (R i) (S i) hu⟩
  · have := rowsOf_get R i hi
    simp [part, this]
  · have := rowsOf_get S i hi
    simp [part, this]
theorem run_eqIdx (R S : Nat → Nat) (w : World) (d : Nat) : ∀ l : List Nat, (∀ i ∈ l, i < 40) → (eqIdx (d + 1) 48 1 (rowsOf R) (rowsOf S) l).run Tryd.prog w = .ok (l.all fun i => numOf ((rowsOf R).getD i undef) == numOf ((rowsOf S).getD i undef)) w := by
  intro l
  induction l with
  | nil => intro _; rfl
  | cons i l ih =>
    intro h
    have hi : i < 40 := h i (by simp)
    have hx : (rowsOf R).getD i undef = .int .u64 (R i) := by rw [Array.getD_eq_getD_getElem?, rowsOf_get R i hi]; rfl
    have hy : (rowsOf S).getD i undef = .int .u64 (S i) := by rw [Array.getD_eq_getD_getElem?, rowsOf_get S i hi]; rfl
    obtain ⟨px, py, he⟩ := parts_at R S w d i hi
    rw [List.all_cons, hx, hy]
    simp only [eqIdx, Sem.run_bind, px, py, he, Result.andThen_ok, numOf]
    cases ((R i : Int) == (S i : Int))
    · rfl
    · simp only [Bool.not_true, Bool.false_eq_true, if_false, Bool.true_and]
      exact ih fun j hj => h j (by simp [hj])
theorem run_equalIn_rows' (d : Nat) (R S : Nat → Nat) (w : World) : (Op.equalIn (d + 2) 50 (.agg (rowsOf R)) (.agg (rowsOf S))).run Tryd.prog w = .ok (rowsEq (rowsOf R) (rowsOf S)) w := by
  have hu : Tryd.prog.underlying 50 = some (.array 40 48) := by kernel_rfl
  have hz : (sizeOf 48).run Tryd.prog w = .ok 1 w := by kernel_rfl
  have key := run_eqIdx R S w d (List.range 40) (fun i hi => List.mem_range.1 hi)
  rw [Op.equalIn]
  simp only [Sem.run_bind, run_underlying hu, Result.andThen_ok, hz]
  rw [Std.Legacy.Range.forIn_eq_forIn_range']
  have hr : List.range' 0 40 1 = List.range 40 := rfl
  show ((Sem.run Tryd.prog (forIn (List.range' 0 40 1) _ _) w).andThen _) = _
  rw [hr]
  refine Eq.trans ?_ key
  have hall : ∀ i ∈ List.range 40, i < 40 := fun i hi => List.mem_range.1 hi
  generalize List.range 40 = l at hall
  clear key
  induction l with
  | nil => rfl
  | cons i l ih =>
    obtain ⟨px, py, he⟩ := parts_at R S w d i (hall i (by simp))
    simp only [List.forIn_cons, eqIdx, Sem.run_bind, px, py, he, Result.andThen_ok]
    cases ((R i : Int) == (S i : Int))
    · rfl
    · simp only [Bool.not_true, Bool.false_eq_true, if_false, Sem.run_pure, Result.andThen_ok]
      exact ih fun j hj => hall j (by simp [hj])
theorem run_equalIn_rows (xs ys : Array Value) (w : World) (hx : IsRows xs) (hy : IsRows ys) : (Op.equalIn 10000 50 (.agg xs) (.agg ys)).run Tryd.prog w = .ok (rowsEq xs ys) w := by
  obtain ⟨R, rfl⟩ := hx
  obtain ⟨S, rfl⟩ := hy
  exact run_equalIn_rows' 9998 R S w
end RelA
end Go.Proofs.YtepkjnpbdjmlbaaDoor
