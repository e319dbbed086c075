import Derived.Test.YtkfepcmgbmnceaaDoorSndA
namespace Go.Proofs.YtkfepcmgbmnceaaDoor
open Go.RowKit ExprA SndA
set_option maxRecDepth 100000 in
set_option maxHeartbeats 4000000 in
theorem of_any (k : Int) (w : World) (h : KTab w) : Calls Tryd.prog 16 #[.int .i64 k] w fun e w' => e = .returned (.agg (krL (kr k)).toArray) ∧ Below w.heap.size w w' := by
  have HK := Lib.hid h
  have hs := h.1
  have hs0 : 0 < w.heap.size := hs
  clear h
  by_cases hin : 0 ≤ k ∧ k < 7
  · obtain ⟨n, rfl⟩ : ∃ n : Nat, k = (n : Int) := ⟨k.toNat, by omega⟩
    rcases (show n = 0 ∨ n = 1 ∨ n = 2 ∨ n = 3 ∨ n = 4 ∨ n = 5 ∨ n = 6 by omega) with rfl | rfl | rfl | rfl | rfl | rfl | rfl
    · clear hin
      have h0 : w.cell? ⟨0, 0, none⟩ = some (.int .i64 0) := HK.out.2 0 (by decide)
      have h1 : w.cell? ⟨0, 1, none⟩ = some (.int .i64 0) := HK.out.2 1 (by decide)
      have h2 : w.cell? ⟨0, 2, none⟩ = some (.bool false) := HK.out.2 2 (by decide)
      have h3 : w.cell? ⟨0, 3, none⟩ = some (.bool false) := HK.out.2 3 (by decide)
      have h4 : w.cell? ⟨0, 4, none⟩ = some (.bool false) := HK.out.2 4 (by decide)
      have h5 : w.cell? ⟨0, 5, none⟩ = some (.int .i64 0) := HK.out.2 5 (by decide)
      have h6 : w.cell? ⟨0, 6, none⟩ = some (.bool false) := HK.out.2 6 (by decide)
      have h7 : w.cell? ⟨0, 7, none⟩ = some (.int .i64 0) := HK.out.2 7 (by decide)
      go_enter Tryd.func16, Tryd.ntmps16
      go_wp2_with fail
      refine bodyPost_ret (v := .agg #[.int .i64 0, .int .i64 0, .bool false, .bool false, .bool false, .int .i64 0, .bool false, .int .i64 0]) ?_ rfl ⟨rfl, (Below.refl _ _).alloc (Nat.le_refl _) _⟩
      exact results_cell_row rfl _ _ w.heap.size 45 #[.int .i64 0, .int .i64 0, .bool false, .bool false, .bool false, .int .i64 0, .bool false, .int .i64 0] (0, 0) _ rfl (heap_alloc_new _ _) Tryd.underlying45 rfl (by kernel_rfl)
    · clear hin
      have h0 : w.cell? ⟨0, 8, none⟩ = some (.int .i64 3) := HK.out.2 8 (by decide)
      have h1 : w.cell? ⟨0, 9, none⟩ = some (.int .i64 1) := HK.out.2 9 (by decide)
      have h2 : w.cell? ⟨0, 10, none⟩ = some (.bool true) := HK.out.2 10 (by decide)
      have h3 : w.cell? ⟨0, 11, none⟩ = some (.bool true) := HK.out.2 11 (by decide)
      have h4 : w.cell? ⟨0, 12, none⟩ = some (.bool false) := HK.out.2 12 (by decide)
      have h5 : w.cell? ⟨0, 13, none⟩ = some (.int .i64 0) := HK.out.2 13 (by decide)
      have h6 : w.cell? ⟨0, 14, none⟩ = some (.bool false) := HK.out.2 14 (by decide)
      have h7 : w.cell? ⟨0, 15, none⟩ = some (.int .i64 1) := HK.out.2 15 (by decide)
      go_enter Tryd.func16, Tryd.ntmps16
      go_wp2_with fail
      refine bodyPost_ret (v := .agg #[.int .i64 3, .int .i64 1, .bool true, .bool true, .bool false, .int .i64 0, .bool false, .int .i64 1]) ?_ rfl ⟨rfl, (Below.refl _ _).alloc (Nat.le_refl _) _⟩
      exact results_cell_row rfl _ _ w.heap.size 45 #[.int .i64 3, .int .i64 1, .bool true, .bool true, .bool false, .int .i64 0, .bool false, .int .i64 1] (0, 0) _ rfl (heap_alloc_new _ _) Tryd.underlying45 rfl (by kernel_rfl)
    · clear hin
      have h0 : w.cell? ⟨0, 16, none⟩ = some (.int .i64 5) := HK.out.2 16 (by decide)
      have h1 : w.cell? ⟨0, 17, none⟩ = some (.int .i64 1) := HK.out.2 17 (by decide)
      have h2 : w.cell? ⟨0, 18, none⟩ = some (.bool false) := HK.out.2 18 (by decide)
      have h3 : w.cell? ⟨0, 19, none⟩ = some (.bool true) := HK.out.2 19 (by decide)
      have h4 : w.cell? ⟨0, 20, none⟩ = some (.bool false) := HK.out.2 20 (by decide)
      have h5 : w.cell? ⟨0, 21, none⟩ = some (.int .i64 9) := HK.out.2 21 (by decide)
      have h6 : w.cell? ⟨0, 22, none⟩ = some (.bool false) := HK.out.2 22 (by decide)
      have h7 : w.cell? ⟨0, 23, none⟩ = some (.int .i64 1) := HK.out.2 23 (by decide)
      go_enter Tryd.func16, Tryd.ntmps16
      go_wp2_with fail
      refine bodyPost_ret (v := .agg #[.int .i64 5, .int .i64 1, .bool false, .bool true, .bool false, .int .i64 9, .bool false, .int .i64 1]) ?_ rfl ⟨rfl, (Below.refl _ _).alloc (Nat.le_refl _) _⟩
      exact results_cell_row rfl _ _ w.heap.size 45 #[.int .i64 5, .int .i64 1, .bool false, .bool true, .bool false, .int .i64 9, .bool false, .int .i64 1] (0, 0) _ rfl (heap_alloc_new _ _) Tryd.underlying45 rfl (by kernel_rfl)
    · clear hin
      have h0 : w.cell? ⟨0, 24, none⟩ = some (.int .i64 30) := HK.out.2 24 (by decide)
      have h1 : w.cell? ⟨0, 25, none⟩ = some (.int .i64 1) := HK.out.2 25 (by decide)
      have h2 : w.cell? ⟨0, 26, none⟩ = some (.bool false) := HK.out.2 26 (by decide)
      have h3 : w.cell? ⟨0, 27, none⟩ = some (.bool false) := HK.out.2 27 (by decide)
      have h4 : w.cell? ⟨0, 28, none⟩ = some (.bool false) := HK.out.2 28 (by decide)
      have h5 : w.cell? ⟨0, 29, none⟩ = some (.int .i64 0) := HK.out.2 29 (by decide)
      have h6 : w.cell? ⟨0, 30, none⟩ = some (.bool false) := HK.out.2 30 (by decide)
      have h7 : w.cell? ⟨0, 31, none⟩ = some (.int .i64 1) := HK.out.2 31 (by decide)
      go_enter Tryd.func16, Tryd.ntmps16
      go_wp2_with fail
      refine bodyPost_ret (v := .agg #[.int .i64 30, .int .i64 1, .bool false, .bool false, .bool false, .int .i64 0, .bool false, .int .i64 1]) ?_ rfl ⟨rfl, (Below.refl _ _).alloc (Nat.le_refl _) _⟩
      exact results_cell_row rfl _ _ w.heap.size 45 #[.int .i64 30, .int .i64 1, .bool false, .bool false, .bool false, .int .i64 0, .bool false, .int .i64 1] (0, 0) _ rfl (heap_alloc_new _ _) Tryd.underlying45 rfl (by kernel_rfl)
    · clear hin
      have h0 : w.cell? ⟨0, 32, none⟩ = some (.int .i64 3) := HK.out.2 32 (by decide)
      have h1 : w.cell? ⟨0, 33, none⟩ = some (.int .i64 5) := HK.out.2 33 (by decide)
      have h2 : w.cell? ⟨0, 34, none⟩ = some (.bool true) := HK.out.2 34 (by decide)
      have h3 : w.cell? ⟨0, 35, none⟩ = some (.bool true) := HK.out.2 35 (by decide)
      have h4 : w.cell? ⟨0, 36, none⟩ = some (.bool false) := HK.out.2 36 (by decide)
      have h5 : w.cell? ⟨0, 37, none⟩ = some (.int .i64 7) := HK.out.2 37 (by decide)
      have h6 : w.cell? ⟨0, 38, none⟩ = some (.bool true) := HK.out.2 38 (by decide)
      have h7 : w.cell? ⟨0, 39, none⟩ = some (.int .i64 2) := HK.out.2 39 (by decide)
      go_enter Tryd.func16, Tryd.ntmps16
      go_wp2_with fail
      refine bodyPost_ret (v := .agg #[.int .i64 3, .int .i64 5, .bool true, .bool true, .bool false, .int .i64 7, .bool true, .int .i64 2]) ?_ rfl ⟨rfl, (Below.refl _ _).alloc (Nat.le_refl _) _⟩
      exact results_cell_row rfl _ _ w.heap.size 45 #[.int .i64 3, .int .i64 5, .bool true, .bool true, .bool false, .int .i64 7, .bool true, .int .i64 2] (0, 0) _ rfl (heap_alloc_new _ _) Tryd.underlying45 rfl (by kernel_rfl)
    · clear hin
      have h0 : w.cell? ⟨0, 40, none⟩ = some (.int .i64 1) := HK.out.2 40 (by decide)
      have h1 : w.cell? ⟨0, 41, none⟩ = some (.int .i64 1) := HK.out.2 41 (by decide)
      have h2 : w.cell? ⟨0, 42, none⟩ = some (.bool true) := HK.out.2 42 (by decide)
      have h3 : w.cell? ⟨0, 43, none⟩ = some (.bool false) := HK.out.2 43 (by decide)
      have h4 : w.cell? ⟨0, 44, none⟩ = some (.bool false) := HK.out.2 44 (by decide)
      have h5 : w.cell? ⟨0, 45, none⟩ = some (.int .i64 9) := HK.out.2 45 (by decide)
      have h6 : w.cell? ⟨0, 46, none⟩ = some (.bool false) := HK.out.2 46 (by decide)
      have h7 : w.cell? ⟨0, 47, none⟩ = some (.int .i64 0) := HK.out.2 47 (by decide)
      go_enter Tryd.func16, Tryd.ntmps16
      go_wp2_with fail
      refine bodyPost_ret (v := .agg #[.int .i64 1, .int .i64 1, .bool true, .bool false, .bool false, .int .i64 9, .bool false, .int .i64 0]) ?_ rfl ⟨rfl, (Below.refl _ _).alloc (Nat.le_refl _) _⟩
      exact results_cell_row rfl _ _ w.heap.size 45 #[.int .i64 1, .int .i64 1, .bool true, .bool false, .bool false, .int .i64 9, .bool false, .int .i64 0] (0, 0) _ rfl (heap_alloc_new _ _) Tryd.underlying45 rfl (by kernel_rfl)
    · clear hin
      have h0 : w.cell? ⟨0, 48, none⟩ = some (.int .i64 1) := HK.out.2 48 (by decide)
      have h1 : w.cell? ⟨0, 49, none⟩ = some (.int .i64 1) := HK.out.2 49 (by decide)
      have h2 : w.cell? ⟨0, 50, none⟩ = some (.bool false) := HK.out.2 50 (by decide)
      have h3 : w.cell? ⟨0, 51, none⟩ = some (.bool false) := HK.out.2 51 (by decide)
      have h4 : w.cell? ⟨0, 52, none⟩ = some (.bool true) := HK.out.2 52 (by decide)
      have h5 : w.cell? ⟨0, 53, none⟩ = some (.int .i64 9) := HK.out.2 53 (by decide)
      have h6 : w.cell? ⟨0, 54, none⟩ = some (.bool false) := HK.out.2 54 (by decide)
      have h7 : w.cell? ⟨0, 55, none⟩ = some (.int .i64 0) := HK.out.2 55 (by decide)
      go_enter Tryd.func16, Tryd.ntmps16
      go_wp2_with fail
      refine bodyPost_ret (v := .agg #[.int .i64 1, .int .i64 1, .bool false, .bool false, .bool true, .int .i64 9, .bool false, .int .i64 0]) ?_ rfl ⟨rfl, (Below.refl _ _).alloc (Nat.le_refl _) _⟩
      exact results_cell_row rfl _ _ w.heap.size 45 #[.int .i64 1, .int .i64 1, .bool false, .bool false, .bool true, .int .i64 9, .bool false, .int .i64 0] (0, 0) _ rfl (heap_alloc_new _ _) Tryd.underlying45 rfl (by kernel_rfl)
  · have hr : kr k = ⟨0, 0, false, false, false, 0, false, 0⟩ := by unfold kr; rw [if_neg (by omega), if_neg (by omega), if_neg (by omega), if_neg (by omega), if_neg (by omega), if_neg (by omega)]
    by_cases hneg : k < 0
    · have hd : decide (k < 0) = true := by simp [hneg]
      go_enter Tryd.func16, Tryd.ntmps16
      go_wp2_with fail
      refine bodyPost_ret (v := .agg #[.int .i64 0, .int .i64 0, .bool false, .bool false, .bool false, .int .i64 0, .bool false, .int .i64 0]) ?_ rfl ⟨by first | rfl | (rw [hr]; rfl), (Below.refl _ _).alloc (Nat.le_refl _) _⟩
      exact results_cell_row rfl _ _ w.heap.size 45 #[.int .i64 0, .int .i64 0, .bool false, .bool false, .bool false, .int .i64 0, .bool false, .int .i64 0] (0, 0) _ rfl (heap_alloc_new _ _) Tryd.underlying45 rfl (by kernel_rfl)
    · have hd : decide (k < 0) = false := by simp; omega
      have hge : (7 : Int) ≤ k := by omega
      have hd2 : decide ((7 : Int) ≤ k) = true := by simp [hge]
      go_enter Tryd.func16, Tryd.ntmps16
      go_wp2_with fail
      refine bodyPost_ret (v := .agg #[.int .i64 0, .int .i64 0, .bool false, .bool false, .bool false, .int .i64 0, .bool false, .int .i64 0]) ?_ rfl ⟨by first | rfl | (rw [hr]; rfl), (Below.refl _ _).alloc (Nat.le_refl _) _⟩
      exact results_cell_row rfl _ _ w.heap.size 45 #[.int .i64 0, .int .i64 0, .bool false, .bool false, .bool false, .int .i64 0, .bool false, .int .i64 0] (0, 0) _ rfl (heap_alloc_new _ _) Tryd.underlying45 rfl (by kernel_rfl)
end Go.Proofs.YtkfepcmgbmnceaaDoor
