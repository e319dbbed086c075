import Derived.Test.YtcmjmojbocmcgaaDoorI
import Derived.Deep.RegionHeld3
namespace Go.Proofs.YtcmjmojbocmcgaaDoor
open Go.RowKit ExprA
namespace ExprA
theorem eval2 (v : Nat) (h1 : 1 ≤ v) (h6 : v ≤ 6) (a b : Int) : evalB [(2, 0), (2, 1), (3, (v : Int))] [a, b] = opF v a b := by
  rcases (show v = 1 ∨ v = 2 ∨ v = 3 ∨ v = 4 ∨ v = 5 ∨ v = 6 by omega) with rfl | rfl | rfl | rfl | rfl | rfl <;> rfl
theorem tin_new (w : World) (T : List (Int × Int)) (t : TypeId) : TIn (w.alloc (.cells (icells T).toArray t (0, 0))) (some ⟨w.heap.size, 0, none⟩) T := by
  refine .inr ⟨_, 0, rfl, by simp, fun i hi => ?_⟩
  rw [cell_of_row _ _ _ _ _ _ (heap_alloc_new _ _), cell_of_row _ _ _ _ _ _ (heap_alloc_new _ _), Nat.zero_add]
  have := icells_get T i hi
  simpa using this
theorem nin_new (w : World) (R : List Int) (t : TypeId) : NIn (w.alloc (.cells (R.map fun x => Value.int .i64 x).toArray t (0, 0))) (some ⟨w.heap.size, 0, none⟩) R := by
  refine .inr ⟨_, 0, rfl, by simp, fun i hi => ?_⟩
  rw [cell_of_row _ _ _ _ _ _ (heap_alloc_new _ _), Nat.zero_add]
  simp [hi]
theorem wrapEq (x : Int) : IntKind.i64.wrap x = wrap64 x := by unfold wrap64; exact IntKind.wrap_i64 x
end ExprA
set_option maxRecDepth 100000 in
set_option maxHeartbeats 4000000 in
theorem esum_any (v : Nat) (h1 : 1 ≤ v) (h6 : v ≤ 6) (p q : Nat) (a b : Int) (w : World) (hp : w.cell? ⟨p, 0, none⟩ = some (.int .i64 a)) (hq : w.cell? ⟨q, 0, none⟩ = some (.int .i64 b)) :
    Calls Tryd.prog 13 #[.int .i64 (v : Int), .pointer (some ⟨p, 0, none⟩), .pointer (some ⟨q, 0, none⟩)] w fun e w' => e = .returned (.int .i64 (opF v a b)) ∧ Below w.heap.size w w' := by
  have HE := Lib.hid (eval2 v h1 h6 a b)
  have hlp := block_lt_of_cell hp
  have hlq := block_lt_of_cell hq
  have HW : ∀ o : Obj, Hid (Below w.heap.size w (w.alloc o)) := fun o => Lib.hid ((Below.refl _ _).alloc (Nat.le_refl _) o)
  have HT : Hid (∀ o, TIn ((w.alloc (.cells #[.int .i64 2, .int .i64 0, .int .i64 2, .int .i64 1, .int .i64 3, .int .i64 (v : Int)] 34 (0, 0))).alloc o) (some ⟨w.heap.size, 0, none⟩) [(2, 0), (2, 1), (3, (v : Int))]) :=
    Lib.hid (fun o => (tin_new w [(2, 0), (2, 1), (3, (v : Int))] 34).next ((Below.refl _ _).alloc (Nat.le_refl _) o))
  have HN : Hid (∀ w1 : World, w1.heap.size = w.heap.size + 1 → NIn (w1.alloc (.cells #[.int .i64 a, .int .i64 b] 3 (0, 0))) (some ⟨w.heap.size + 1, 0, none⟩) [a, b]) := Lib.hid (fun w1 h => by
    rw [← h]; exact nin_new w1 [a, b] 3)
  have HV := Lib.hid (fun w1 h2 h3 => eval_any (some ⟨w.heap.size, 0, none⟩) [(2, 0), (2, 1), (3, (v : Int))] 3 (some ⟨w.heap.size + 1, 0, none⟩) [a, b] 2 w1 h2 h3)
  rw [HE.out] at HV
  generalize hvv : (v : Int) = z at *
  go_enter Tryd.func13, Tryd.ntmps13
  go_wp2_with fail
  refine (HV.out _ (HT.out _) (HN.out _ (by simp))).mono ?_
  rintro e w2 ⟨rfl, hb2⟩
  go_wp2_with fail
  go_ret
  exact ⟨rfl, below_next (((HW _).out).alloc (by simp) _) hb2⟩
theorem one_any (b : Bool) (w : World) : Calls Tryd.prog 15 #[.bool b] w fun e w' => e = .returned (.int .i64 (truthZ b)) ∧ w = w' := by
  cases b
  all_goals
    go_enter Tryd.func15, Tryd.ntmps15
    go_wp2_with fail
    go_ret
    exact ⟨rfl, rfl⟩
end Go.Proofs.YtcmjmojbocmcgaaDoor
