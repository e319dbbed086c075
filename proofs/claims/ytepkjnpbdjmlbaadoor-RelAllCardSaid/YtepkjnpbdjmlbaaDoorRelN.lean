import Derived.Test.YtepkjnpbdjmlbaaDoorRelL
namespace Go.Proofs.YtepkjnpbdjmlbaaDoor
open Go.RowKit RelA
namespace RelA
theorem newR_nil (n : Nat) : newR n [] = fun _ => 0 := rfl
end RelA
set_option maxHeartbeats 800000 in
theorem new_nil (n : Int) (w : World) :
    Calls Tryd.prog 8 #[.int .i64 n, .slice none 0 0] w fun e w' => e = .returned (.pointer (some ⟨w.heap.size, 0, none⟩)) ∧ At w' w.heap.size (clampN n) (fun _ => 0) ∧ Below w.heap.size w w' := by
  go_enter Tryd.func8, Tryd.ntmps8
  go_wp2_with fail
  all_goals
    go_loopw [15] (fun i wr => i = .int .i64 0 ∧ At wr w.heap.size (clampN n) (fun _ => 0) ∧ Below w.heap.size w wr) (fun i _ => 0)
    case atStart =>
      exact ⟨rfl, zero_at' w _ _ (by unfold clampN; omega), (Below.refl _ _).alloc (Nat.le_refl _) _⟩
    case round =>
      obtain ⟨rfl, hat, hbe⟩ := hrel
      have HAT := Lib.hid hat
      clear hat
      go_wp2_with fail
      go_ret
      exact ⟨rfl, HAT.out, hbe⟩

namespace RelA
theorem max2_int (k k2 : IntKind) (x y : Int) : Builtin.max2 (.int k x) (.int k2 y) = pure (.int k (max x y)) := by
  show pure (Value.int k (if y > x then y else x)) = _
  by_cases h : y > x
  · rw [if_pos h]; congr 2; omega
  · rw [if_neg h]; congr 2; omega
theorem min2_int (k k2 : IntKind) (x y : Int) : Builtin.min2 (.int k x) (.int k2 y) = pure (.int k (min x y)) := by
  show pure (Value.int k (if y < x then y else x)) = _
  by_cases h : y < x
  · rw [if_pos h]; congr 2; omega
  · rw [if_neg h]; congr 2; omega
def maxOp (x y : Value) : Sem Next := do pure (.value (← Builtin.max2 x y))
def minOp (x y : Value) : Sem Next := do pure (.value (← Builtin.min2 x y))
theorem execOp_max (a : Act) (dst : Option Tmp) (x y : Operand) (ty : TypeId) (pos : String) (after : Array Edge) (guard : Option (Nat × Bool)) :
    execOp a.eval { dst, op := .call { callee := .builtin .max, args := #[x, y], argTypes := #[3, 3] }, type := ty, pos, after, guard } = maxOp (a.eval x) (a.eval y) := by
  simp [execOp, resolve, invoke, builtin, Builtin.max_, maxOp]
theorem execOp_min (a : Act) (dst : Option Tmp) (x y : Operand) (ty : TypeId) (pos : String) (after : Array Edge) (guard : Option (Nat × Bool)) :
    execOp a.eval { dst, op := .call { callee := .builtin .min, args := #[x, y], argTypes := #[3, 3] }, type := ty, pos, after, guard } = minOp (a.eval x) (a.eval y) := by
  simp [execOp, resolve, invoke, builtin, Builtin.min_, minOp]
theorem run_maxOp {P : Program} (k k2 : IntKind) (x y : Int) (w : World) : (maxOp (.int k x) (.int k2 y)).run P w = .ok (.value (.int k (max x y))) w := by
  unfold maxOp; rw [max2_int]; rfl
theorem run_minOp {P : Program} (k k2 : IntKind) (x y : Int) (w : World) : (minOp (.int k x) (.int k2 y)).run P w = .ok (.value (.int k (min x y))) w := by
  unfold minOp; rw [min2_int]; rfl
theorem clamp_eq (n : Int) : min (max n 0) 40 = (clampN n : Int) := by unfold clampN; omega
end RelA
namespace RelA
theorem At.next {w w' : World} {b n : Nat} {R : Nat → Nat} (h : At w b n R) (hb : Below w.heap.size w w') : At w' b n R := h.below hb h.lt
theorem Tab.pos {w : World} (h : Tab w) : 0 < w.heap.size := block_lt_of_cell (h 0 (by decide))
theorem Tab.next {w w' : World} (h : Tab w) (hb : Below w.heap.size w w') : Tab w' := h.below hb h.pos
theorem below_next {w w1 w2 : World} (h : Below w.heap.size w w1) (g : Below w1.heap.size w1 w2) : Below w.heap.size w w2 := h.trans (g.mono h.size)
theorem own_len {w : World} {base : Nat} {e : TypeId} {size : Nat} {v : Value} {n : Nat} {xs : List Value} (h : w.ownsRow base e size v n xs) : ∃ a c, v = .slice a n c := by
  obtain ⟨_, h | ⟨g, cap, cur, h, _⟩⟩ := h
  · exact ⟨none, 0, by rw [h.1, h.2]⟩
  · exact ⟨_, _, h⟩
/-- the document's example's two pairs -/
def exR : Nat → Nat := newR 2 [(0, 1), (1, 0)]
theorem exR_lt (i : Nat) : exR i < 2 ^ 40 := Nat.lt_of_lt_of_le (newR_lt 2 _ i) (by decide)
theorem newR_lt40 (n : Nat) (l : List (Int × Int)) (hn : n ≤ 40) (i : Nat) : newR n l i < 2 ^ 40 := Nat.lt_of_lt_of_le (newR_lt n l i) (Nat.pow_le_pow_right (by omega) hn)
theorem ex_loops : loopsB (plusR exR) = true := by
  rw [loopsB_iff]
  refine ⟨0, by decide, ?_⟩
  rw [plusR_bit]
  exact ⟨by decide, .tail (.single (show (exR 0).testBit 1 = true by decide)) (show (exR 1).testBit 0 = true by decide)⟩
theorem zero_plus (i : Nat) : plusR (fun _ => 0) i = 0 := by
  apply Nat.eq_of_testBit_eq
  intro j
  rw [Nat.zero_testBit, ← Bool.not_eq_true, plusR_bit]
  rintro ⟨_, h⟩
  induction h with
  | single h => simp at h
  | tail _ h _ => simp at h
theorem zero_loops : loopsB (plusR fun _ => 0) = false := by
  rw [← Bool.not_eq_true, loopsB_iff]
  rintro ⟨i, _, h⟩
  rw [zero_plus] at h; simp at h
theorem ex_len : (pairsR exR).length = 2 := by decide
theorem ex_has : hasB 2 exR 0 1 = true := by decide
end RelA

set_option maxHeartbeats 1600000 in
theorem awake_any (w : World) (ht : Tab w) : Calls Tryd.prog 7 #[] w fun e w' => e = .returned (.bool true) ∧ Below w.heap.size w w' := by
  have HT := Lib.hid ht
  clear ht
  go_enter Tryd.func7, Tryd.ntmps7
  go_wp2_with fail
  have hB0 : Hid (Below w.heap.size w (w.alloc (Obj.cells #[.int .i64 0, .int .i64 1, .int .i64 1, .int .i64 0] 37))) := (Below.refl _ _).alloc (Nat.le_refl _) _
  have H1 := Lib.hid (new_some 2 w.heap.size 0 [(0, 1), (1, 0)] 2 (w.alloc (Obj.cells #[.int .i64 0, .int .i64 1, .int .i64 1, .int .i64 0] 37)) (by unfold maxLen; simp) (by simp) (by
    intro i hi
    have hi : i < 2 := hi
    rw [cell_of_row _ _ _ _ _ _ (heap_alloc_new _ _), cell_of_row _ _ _ _ _ _ (heap_alloc_new _ _)]
    match i, hi with
    | 0, _ => exact ⟨rfl, rfl⟩
    | 1, _ => exact ⟨rfl, rfl⟩))
  refine H1.out.mono ?_
  rintro e w1 ⟨rfl, hat, hbe⟩
  have hat1 : At w1 (w.heap.size + 1) 2 exR := by
    have e : (w.alloc (Obj.cells #[.int .i64 0, .int .i64 1, .int .i64 1, .int .i64 0] 37)).heap.size = w.heap.size + 1 := by simp
    rw [e] at hat; exact hat
  have HA := Lib.hid hat1
  have HB1 : Hid (Below w.heap.size w w1) := below_next hB0.out hbe
  have HT1 := Lib.hid (HT.out.next HB1.out)
  clear hat hat1 hbe H1 hB0
  have hl := ex_loops
  have hl0 := zero_loops
  have hp := ex_len
  have hh := ex_has
  go_wp2_with fail
  refine (loops_any _ 2 exR w1 HA.out exR_lt HT1.out).mono ?_
  rintro e w2 ⟨rfl, hbe⟩
  have HA2 := Lib.hid (HA.out.next hbe)
  have HB2 := Lib.hid (below_next HB1.out hbe)
  have HT2 := Lib.hid (HT1.out.next hbe)
  clear hbe
  go_wp2_with fail
  refine (len_any _ 2 w2 HA2.out.c0).mono ?_
  rintro e w' ⟨rfl, rfl⟩
  go_wp2_with fail
  refine (has_any _ 2 exR 0 1 w2 HA2.out (by decide) (fun i _ => lt64 (exR_lt i))).mono ?_
  rintro e w' ⟨rfl, rfl⟩
  go_wp2_with fail
  refine (pairs_any _ 2 exR w2 HA2.out exR_lt HT2.out).mono ?_
  rintro e w3 ⟨v, rfl, hown, hbe⟩
  have HB3 := Lib.hid (below_next HB2.out hbe)
  have HT3 := Lib.hid (HT2.out.next hbe)
  obtain ⟨pa, pc, rfl⟩ := own_len hown
  clear hbe hown
  go_wp2_with fail
  refine (new_nil 2 w3).mono ?_
  rintro e w4 ⟨rfl, hat, hbe⟩
  have HA4 := Lib.hid hat
  have HB4 := Lib.hid (below_next HB3.out hbe)
  have HT4 := Lib.hid (HT3.out.next hbe)
  clear hat hbe
  go_wp2_with fail
  refine (loops_any _ _ (fun _ => 0) w4 HA4.out (fun _ => by decide) HT4.out).mono ?_
  rintro e w5 ⟨rfl, hbe⟩
  have HB5 := Lib.hid (below_next HB4.out hbe)
  clear hbe
  go_wp2_with fail
  go_ret
  exact ⟨rfl, HB5.out⟩
end Go.Proofs.YtepkjnpbdjmlbaaDoor
