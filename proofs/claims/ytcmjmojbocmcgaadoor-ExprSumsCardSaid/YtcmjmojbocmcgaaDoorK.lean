import Derived.Test.YtcmjmojbocmcgaaDoorJ
import Derived.Deep.RegionHeld3
namespace Go.Proofs.YtcmjmojbocmcgaaDoor
open Go.RowKit ExprA
namespace ExprA
structure LOne (w0 w : World) : Prop where
  out : LBel w0 w
theorem LOne.next {w0 w w' : World} (h : LOne w0 w) (hb : Below w.heap.size w w') : LOne w0 w' := ⟨h.out.next hb⟩
theorem LOne.drew {w0 w : World} (h : LOne w0 w) : LOne w0 w.drew := ⟨h.out.drew⟩
theorem sm_next {x : Nat} {v : Value} {w w' : World} (h : w.cell? ⟨x, 0, none⟩ = some v) (hb : Below w.heap.size w w') : w'.cell? ⟨x, 0, none⟩ = some v := (hb.cell (p := ⟨x, 0, none⟩) (block_lt_of_cell h)).trans h
/-- what an operation of two numbers is -/
structure SumIs (op a b z : Int) : Prop where
  lo : 1 ≤ op
  hi : op ≤ 6
  is : opF op.toNat a b = z
theorem esx (p q : Nat) (a b op z : Int) (w : World) (hz : SumIs op a b z) (hp : w.cell? ⟨p, 0, none⟩ = some (.int .i64 a)) (hq : w.cell? ⟨q, 0, none⟩ = some (.int .i64 b)) :
    Calls Tryd.prog 13 #[.int .i64 op, .pointer (some ⟨p, 0, none⟩), .pointer (some ⟨q, 0, none⟩)] w fun e w' => e = .returned (.int .i64 z) ∧ Below w.heap.size w w' := by
  obtain ⟨h1, h6, rfl⟩ := hz
  have h := esum_any op.toNat (by omega) (by omega) p q a b w hp hq
  rw [Int.toNat_of_nonneg (by omega)] at h
  exact h
theorem si1 (a b : Int) : SumIs 1 a b (IntKind.i64.wrap (a + b)) := ⟨by decide, by decide, by rw [wrapEq]; rfl⟩
theorem si2 (a b : Int) : SumIs 2 a b (IntKind.i64.wrap (a - b)) := ⟨by decide, by decide, by rw [wrapEq]; rfl⟩
theorem si3 (a b : Int) : SumIs 3 a b (IntKind.i64.wrap (a * b)) := ⟨by decide, by decide, by rw [wrapEq]; rfl⟩
theorem si4 (a b : Int) : SumIs 4 a b (bits .xor .i64 a b) := ⟨by decide, by decide, rfl⟩
theorem si5 (a b : Int) : SumIs 5 a b (truthZ (a == b)) := ⟨by decide, by decide, rfl⟩
theorem si6 (a b : Int) : SumIs 6 a b (truthZ (decide (a < b))) := ⟨by decide, by decide, rfl⟩
end ExprA
set_option maxRecDepth 100000 in
set_option maxHeartbeats 8000000 in
theorem sums_any (a b : Int) (w : World) (h : LibIn w) :
    Calls Tryd.prog 4 #[.int .i64 a, .int .i64 b] w fun e w' => e = .returned (.bool true) ∧ Below w.heap.size w w' := by
  have HL0 : ∀ o1 o2 : Obj, LOne w ((w.alloc o1).alloc o2) := fun o1 o2 => ⟨((LBel.mk h (Below.refl _ _)).next ((Below.refl _ _).alloc (Nat.le_refl _) _)).next ((Below.refl _ _).alloc (Nat.le_refl _) _)⟩
  clear h
  go_enter Tryd.func4, Tryd.ntmps4
  go_wp2_with fail
  have h1 : ((w.alloc (.cells #[.int .i64 a] 3 (0, 0))).alloc (.cells #[.int .i64 b] 3 (0, 0))).cell? ⟨w.heap.size, 0, none⟩ = some (.int .i64 a) := sm_next (w := w.alloc (.cells #[.int .i64 a] 3 (0, 0))) (cell_of_row _ _ _ _ _ _ (heap_alloc_new _ _)) ((Below.refl _ _).alloc (Nat.le_refl _) _)
  have h2 : ((w.alloc (.cells #[.int .i64 a] 3 (0, 0))).alloc (.cells #[.int .i64 b] 3 (0, 0))).cell? ⟨w.heap.size + 1, 0, none⟩ = some (.int .i64 b) := by
    have e : w.heap.size + 1 = (w.alloc (.cells #[.int .i64 a] 3 (0, 0))).heap.size := by simp
    rw [e]; exact cell_of_row _ _ _ _ _ _ (heap_alloc_new _ _)
  have h3 := HL0 (.cells #[.int .i64 a] 3 (0, 0)) (.cells #[.int .i64 b] 3 (0, 0))
  clear HL0
  generalize (w.alloc (.cells #[.int .i64 a] 3 (0, 0))).alloc (.cells #[.int .i64 b] 3 (0, 0)) = w1 at *
  generalize hp : w.heap.size = p at *
  generalize hq : p + 1 = q at *
  have hs1 := si1 a b
  have hs2 := si2 a b
  have hs3 := si3 a b
  have hs4 := si4 a b
  have hs5 := si5 a b
  have hs6 := si6 a b
  have hb1 : (IntKind.i64.wrap (a + b) == IntKind.i64.wrap (a + b)) = true := by simp
  have hb2 : (IntKind.i64.wrap (a - b) == IntKind.i64.wrap (a - b)) = true := by simp
  have hb3 : (IntKind.i64.wrap (a * b) == IntKind.i64.wrap (a * b)) = true := by simp
  have hb4 : (bits .xor .i64 a b == bits .xor .i64 a b) = true := by simp
  have hb5 : (truthZ (a == b) == truthZ (a == b)) = true := by simp
  have hb6 : (truthZ (decide (a < b)) == truthZ (decide (a < b))) = true := by simp
  go_region_held3 (fun w' => w'.cell? ⟨p, 0, none⟩ = some (.int .i64 a) ∧ w'.cell? ⟨q, 0, none⟩ = some (.int .i64 b) ∧ LOne w w')
    (first | (go_split_ands; exact ⟨by simp [*], by simp [*], LOne.drew ‹_›⟩) | go_keep | (go_split_ands; exact ⟨sm_next ‹_› hbe, sm_next ‹_› hbe, LOne.next ‹_› hbe⟩))
    (first
     | (go_at_call 13; refine (esx p q a b _ _ _ (by assumption) (by go_split_ands; assumption) (by go_split_ands; assumption)).mono ?_; rintro e w3 ⟨rfl, hbe⟩)
     | (go_at_call 15; refine (one_any _ _).mono ?_; rintro e w3 ⟨rfl, rfl⟩)
     | (go_at_call 7; refine (awake_any _ (by go_split_ands; exact (LOne.out ‹_›).lib)).mono ?_; rintro e w3 ⟨rfl, hbe⟩))
  all_goals
    go_wp2_with fail
    go_ret
    go_split_ands
    exact ⟨rfl, (LOne.out ‹_›).bel⟩
end Go.Proofs.YtcmjmojbocmcgaaDoor
