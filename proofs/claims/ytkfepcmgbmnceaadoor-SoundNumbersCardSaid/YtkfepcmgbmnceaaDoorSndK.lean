import Derived.Test.YtkfepcmgbmnceaaDoorSndJ
namespace Go.Proofs.YtkfepcmgbmnceaaDoor
open Go.RowKit ExprA SndA
namespace SndA
theorem set7_far (w : World) (l k : Nat) (v0 v1 v2 v3 v4 v5 v6 : Value) (h : k ≠ l) : (((((((w.setCell ⟨l, 0, none⟩ v0).setCell ⟨l, 1, none⟩ v1).setCell ⟨l, 2, none⟩ v2).setCell ⟨l, 3, none⟩ v3).setCell ⟨l, 4, none⟩ v4).setCell ⟨l, 5, none⟩ v5).setCell ⟨l, 6, none⟩ v6).heap[k]? = w.heap[k]? := by
  have s0 : (w.setCell ⟨l, 0, none⟩ v0).heap[k]? = w.heap[k]? := Below.heap_setCell _ ⟨l, 0, none⟩ _ k h
  have s1 : ((w.setCell ⟨l, 0, none⟩ v0).setCell ⟨l, 1, none⟩ v1).heap[k]? = (w.setCell ⟨l, 0, none⟩ v0).heap[k]? := Below.heap_setCell _ ⟨l, 1, none⟩ _ k h
  have s2 : (((w.setCell ⟨l, 0, none⟩ v0).setCell ⟨l, 1, none⟩ v1).setCell ⟨l, 2, none⟩ v2).heap[k]? = ((w.setCell ⟨l, 0, none⟩ v0).setCell ⟨l, 1, none⟩ v1).heap[k]? := Below.heap_setCell _ ⟨l, 2, none⟩ _ k h
  have s3 : ((((w.setCell ⟨l, 0, none⟩ v0).setCell ⟨l, 1, none⟩ v1).setCell ⟨l, 2, none⟩ v2).setCell ⟨l, 3, none⟩ v3).heap[k]? = (((w.setCell ⟨l, 0, none⟩ v0).setCell ⟨l, 1, none⟩ v1).setCell ⟨l, 2, none⟩ v2).heap[k]? := Below.heap_setCell _ ⟨l, 3, none⟩ _ k h
  have s4 : (((((w.setCell ⟨l, 0, none⟩ v0).setCell ⟨l, 1, none⟩ v1).setCell ⟨l, 2, none⟩ v2).setCell ⟨l, 3, none⟩ v3).setCell ⟨l, 4, none⟩ v4).heap[k]? = ((((w.setCell ⟨l, 0, none⟩ v0).setCell ⟨l, 1, none⟩ v1).setCell ⟨l, 2, none⟩ v2).setCell ⟨l, 3, none⟩ v3).heap[k]? := Below.heap_setCell _ ⟨l, 4, none⟩ _ k h
  have s5 : ((((((w.setCell ⟨l, 0, none⟩ v0).setCell ⟨l, 1, none⟩ v1).setCell ⟨l, 2, none⟩ v2).setCell ⟨l, 3, none⟩ v3).setCell ⟨l, 4, none⟩ v4).setCell ⟨l, 5, none⟩ v5).heap[k]? = (((((w.setCell ⟨l, 0, none⟩ v0).setCell ⟨l, 1, none⟩ v1).setCell ⟨l, 2, none⟩ v2).setCell ⟨l, 3, none⟩ v3).setCell ⟨l, 4, none⟩ v4).heap[k]? := Below.heap_setCell _ ⟨l, 5, none⟩ _ k h
  have s6 : (((((((w.setCell ⟨l, 0, none⟩ v0).setCell ⟨l, 1, none⟩ v1).setCell ⟨l, 2, none⟩ v2).setCell ⟨l, 3, none⟩ v3).setCell ⟨l, 4, none⟩ v4).setCell ⟨l, 5, none⟩ v5).setCell ⟨l, 6, none⟩ v6).heap[k]? = ((((((w.setCell ⟨l, 0, none⟩ v0).setCell ⟨l, 1, none⟩ v1).setCell ⟨l, 2, none⟩ v2).setCell ⟨l, 3, none⟩ v3).setCell ⟨l, 4, none⟩ v4).setCell ⟨l, 5, none⟩ v5).heap[k]? := Below.heap_setCell _ ⟨l, 6, none⟩ _ k h
  rw [s6, s5, s4, s3, s2, s1, s0]
theorem set7_at (w : World) (l : Nat) (t : TypeId) (u0 u1 u2 u3 u4 u5 u6 v0 v1 v2 v3 v4 v5 v6 : Value) (h : w.heap[l]? = some (.cells #[u0, u1, u2, u3, u4, u5, u6] t (0, 0))) : (((((((w.setCell ⟨l, 0, none⟩ v0).setCell ⟨l, 1, none⟩ v1).setCell ⟨l, 2, none⟩ v2).setCell ⟨l, 3, none⟩ v3).setCell ⟨l, 4, none⟩ v4).setCell ⟨l, 5, none⟩ v5).setCell ⟨l, 6, none⟩ v6).heap[l]? = some (.cells #[v0, v1, v2, v3, v4, v5, v6] t (0, 0)) := by
  have s0 : (w.setCell ⟨l, 0, none⟩ v0).heap[l]? = some (.cells #[v0, u1, u2, u3, u4, u5, u6] t (0, 0)) := heap_setCell_same w l 0 #[u0, u1, u2, u3, u4, u5, u6] t v0 h
  have s1 : ((w.setCell ⟨l, 0, none⟩ v0).setCell ⟨l, 1, none⟩ v1).heap[l]? = some (.cells #[v0, v1, u2, u3, u4, u5, u6] t (0, 0)) := heap_setCell_same (w.setCell ⟨l, 0, none⟩ v0) l 1 #[v0, u1, u2, u3, u4, u5, u6] t v1 s0
  have s2 : (((w.setCell ⟨l, 0, none⟩ v0).setCell ⟨l, 1, none⟩ v1).setCell ⟨l, 2, none⟩ v2).heap[l]? = some (.cells #[v0, v1, v2, u3, u4, u5, u6] t (0, 0)) := heap_setCell_same ((w.setCell ⟨l, 0, none⟩ v0).setCell ⟨l, 1, none⟩ v1) l 2 #[v0, v1, u2, u3, u4, u5, u6] t v2 s1
  have s3 : ((((w.setCell ⟨l, 0, none⟩ v0).setCell ⟨l, 1, none⟩ v1).setCell ⟨l, 2, none⟩ v2).setCell ⟨l, 3, none⟩ v3).heap[l]? = some (.cells #[v0, v1, v2, v3, u4, u5, u6] t (0, 0)) := heap_setCell_same (((w.setCell ⟨l, 0, none⟩ v0).setCell ⟨l, 1, none⟩ v1).setCell ⟨l, 2, none⟩ v2) l 3 #[v0, v1, v2, u3, u4, u5, u6] t v3 s2
  have s4 : (((((w.setCell ⟨l, 0, none⟩ v0).setCell ⟨l, 1, none⟩ v1).setCell ⟨l, 2, none⟩ v2).setCell ⟨l, 3, none⟩ v3).setCell ⟨l, 4, none⟩ v4).heap[l]? = some (.cells #[v0, v1, v2, v3, v4, u5, u6] t (0, 0)) := heap_setCell_same ((((w.setCell ⟨l, 0, none⟩ v0).setCell ⟨l, 1, none⟩ v1).setCell ⟨l, 2, none⟩ v2).setCell ⟨l, 3, none⟩ v3) l 4 #[v0, v1, v2, v3, u4, u5, u6] t v4 s3
  have s5 : ((((((w.setCell ⟨l, 0, none⟩ v0).setCell ⟨l, 1, none⟩ v1).setCell ⟨l, 2, none⟩ v2).setCell ⟨l, 3, none⟩ v3).setCell ⟨l, 4, none⟩ v4).setCell ⟨l, 5, none⟩ v5).heap[l]? = some (.cells #[v0, v1, v2, v3, v4, v5, u6] t (0, 0)) := heap_setCell_same (((((w.setCell ⟨l, 0, none⟩ v0).setCell ⟨l, 1, none⟩ v1).setCell ⟨l, 2, none⟩ v2).setCell ⟨l, 3, none⟩ v3).setCell ⟨l, 4, none⟩ v4) l 5 #[v0, v1, v2, v3, v4, u5, u6] t v5 s4
  have s6 : (((((((w.setCell ⟨l, 0, none⟩ v0).setCell ⟨l, 1, none⟩ v1).setCell ⟨l, 2, none⟩ v2).setCell ⟨l, 3, none⟩ v3).setCell ⟨l, 4, none⟩ v4).setCell ⟨l, 5, none⟩ v5).setCell ⟨l, 6, none⟩ v6).heap[l]? = some (.cells #[v0, v1, v2, v3, v4, v5, v6] t (0, 0)) := heap_setCell_same ((((((w.setCell ⟨l, 0, none⟩ v0).setCell ⟨l, 1, none⟩ v1).setCell ⟨l, 2, none⟩ v2).setCell ⟨l, 3, none⟩ v3).setCell ⟨l, 4, none⟩ v4).setCell ⟨l, 5, none⟩ v5) l 6 #[v0, v1, v2, v3, v4, v5, u6] t v6 s5
  exact s6
end SndA
set_option maxRecDepth 100000 in
set_option maxHeartbeats 8000000 in
theorem awake_any (w : World) (hk : KTab w) :
    Calls Tryd.prog 6 #[] w fun e w' => e = .returned (.bool true) ∧ Below w.heap.size w w' := by
  have HK := Lib.hid hk
  clear hk
  go_enter Tryd.func6, Tryd.ntmps6
  go_wp2_with fail
  have HW : Hid (∃ W : World, W = ((((w.alloc (.cells #[.int .i64 1, .int .i64 1] 37 (0, 0))).alloc (.cells #[.int .i64 2, .int .i64 1, .int .i64 0, .int .i64 0, .int .i64 0, .slice (some ⟨w.heap.size, 0, none⟩) 1 1, .int .i64 0] 34 (0, 0))).alloc (.cells #[.int .i64 2, .int .i64 1, .int .i64 0, .int .i64 0, .int .i64 0, .slice (some ⟨w.heap.size, 0, none⟩) 1 1, .int .i64 0] 34 (0, 0))).alloc (.cells #[.slice (some ⟨w.heap.size + 1 + 1, 0, none⟩) 1 1] 31 (0, 0))).alloc (.cells #[.int .i64 1, .slice (some ⟨w.heap.size + 1 + 1 + 1, 0, none⟩) 1 1] 26 (0, 0))) := Lib.hid ⟨_, rfl⟩
  obtain ⟨W, hW⟩ := HW.out
  rw [← hW]
  have hBW : Below w.heap.size w W := by
    rw [hW]
    exact (((((Below.refl _ _).alloc (Nat.le_refl _) _).alloc (by simp) _).alloc (by simp; omega) _).alloc (by simp; omega) _).alloc (by simp; omega) _
  have H5 := heap5 w (.cells #[.int .i64 1, .int .i64 1] 37 (0, 0)) (.cells #[.int .i64 2, .int .i64 1, .int .i64 0, .int .i64 0, .int .i64 0, .slice (some ⟨w.heap.size, 0, none⟩) 1 1, .int .i64 0] 34 (0, 0)) (.cells #[.int .i64 2, .int .i64 1, .int .i64 0, .int .i64 0, .int .i64 0, .slice (some ⟨w.heap.size, 0, none⟩) 1 1, .int .i64 0] 34 (0, 0)) (.cells #[.slice (some ⟨w.heap.size + 1 + 1, 0, none⟩) 1 1] 31 (0, 0)) (.cells #[.int .i64 1, .slice (some ⟨w.heap.size + 1 + 1 + 1, 0, none⟩) 1 1] 26 (0, 0))
  rw [← hW] at H5
  have e0 : W.heap[w.heap.size]? = some (.cells #[.int .i64 1, .int .i64 1] 37 (0, 0)) := H5.1
  have e1 : W.heap[w.heap.size + 1]? = some (.cells #[.int .i64 2, .int .i64 1, .int .i64 0, .int .i64 0, .int .i64 0, .slice (some ⟨w.heap.size, 0, none⟩) 1 1, .int .i64 0] 34 (0, 0)) := H5.2.1
  have e2 : W.heap[w.heap.size + 1 + 1]? = some (.cells #[.int .i64 2, .int .i64 1, .int .i64 0, .int .i64 0, .int .i64 0, .slice (some ⟨w.heap.size, 0, none⟩) 1 1, .int .i64 0] 34 (0, 0)) := H5.2.2.1
  have e3 : W.heap[w.heap.size + 1 + 1 + 1]? = some (.cells #[.slice (some ⟨w.heap.size + 1 + 1, 0, none⟩) 1 1] 31 (0, 0)) := H5.2.2.2.1
  have e4 : W.heap[w.heap.size + 1 + 1 + 1 + 1]? = some (.cells #[.int .i64 1, .slice (some ⟨w.heap.size + 1 + 1 + 1, 0, none⟩) 1 1] 26 (0, 0)) := H5.2.2.2.2
  clear hW HW H5
  have HB := Lib.hid hBW
  have HKW := Lib.hid (HK.out.next hBW)
  clear hBW
  generalize hz : w.heap.size = z at *
  generalize hi0 : z + 1 = i0 at *
  generalize hl0 : i0 + 1 = l0 at *
  generalize ht0 : l0 + 1 = t0 at *
  generalize hp0 : t0 + 1 = p0 at *
  have HNE : Hid (z < i0 ∧ i0 < l0 ∧ l0 < t0 ∧ t0 < p0) := Lib.hid (by omega)
  clear hi0 hl0 ht0 hp0
  have ht : TIn W (some ⟨z, 0, none⟩) [(1, 1)] := .inr ⟨z, 0, rfl, (Array.getElem?_eq_some_iff.1 e0).1, fun q hq => by
    have e : q = 0 := by simpa using hq
    subst e
    exact ⟨cell_of_row _ _ _ _ _ _ e0, cell_of_row _ _ _ _ _ _ e0⟩⟩
  have hlc : LCells W l0 0 (awI z 1) := ⟨cell_of_row _ _ _ _ _ _ e2, cell_of_row _ _ _ _ _ _ e2, cell_of_row _ _ _ _ _ _ e2, cell_of_row _ _ _ _ _ _ e2, cell_of_row _ _ _ _ _ _ e2, cell_of_row _ _ _ _ _ _ e2, cell_of_row _ _ _ _ _ _ e2⟩
  have hpr : PrIn W (some ⟨t0, 0, none⟩) [⟨some ⟨l0, 0, none⟩, [awI z 1], 1⟩] := prin_one (cell_of_row _ _ _ _ _ _ e3) (thin_one hlc ⟨ht, by show [((1 : Int), (1 : Int))].length ≤ 100; decide, fun _ => few_one 1⟩)
  have HT := Lib.hid ht
  have HCK : Hid (Calls Tryd.prog 9 #[.agg #[.int .i64 1, .slice (some ⟨t0, 0, none⟩) 1 1]] W fun e w' => e = .returned (.int .i64 3) ∧ Below W.heap.size W w') := Lib.hid (by
    have h1 := progcheck_any 1 (some ⟨t0, 0, none⟩) [⟨some ⟨l0, 0, none⟩, [awI z 1], 1⟩] 1 W hpr HKW.out (by decide) (by decide)
    rw [aw_bad] at h1
    exact h1)
  clear hlc hpr ht
  refine HCK.out.mono ?_
  rintro e w1 ⟨rfl, hb1⟩
  have f0 := (hb1.block z (Array.getElem?_eq_some_iff.1 e0).1).trans e0
  have f1 := (hb1.block i0 (Array.getElem?_eq_some_iff.1 e1).1).trans e1
  have f2 := (hb1.block l0 (Array.getElem?_eq_some_iff.1 e2).1).trans e2
  have f3 := (hb1.block t0 (Array.getElem?_eq_some_iff.1 e3).1).trans e3
  have f4 := (hb1.block p0 (Array.getElem?_eq_some_iff.1 e4).1).trans e4
  have hzW : z ≤ W.heap.size := by have := HB.out.size; omega
  have HB1 := Lib.hid (HB.out.trans (hb1.mono hzW))
  have hz1 : z ≤ w1.heap.size := Nat.le_trans hzW hb1.size
  have HT1 := Lib.hid (HT.out.next hb1)
  have HK1 := Lib.hid (HKW.out.next hb1)
  clear hb1 HB HT HKW HCK e0 e1 e2 e3 e4
  have hfr : w1.frozen? ⟨i0, 1, none⟩ = false := frozen_of_row w1 i0 1 _ _ f1
  have hcl : w1.cell? ⟨i0, 1, none⟩ = some (.int .i64 1) := cell_of_row _ _ _ _ _ _ f1
  go_wp2_with fail
  have HB2 := Lib.hid (HB1.out.setCell (show z ≤ (⟨i0, 1, none⟩ : Addr).block by have := HNE.out; show z ≤ i0; omega) (.int .i64 2))
  have hz2 : z ≤ (w1.setCell ⟨i0, 1, none⟩ (.int .i64 2)).heap.size := by simpa using hz1
  have g1 := heap_setCell_same w1 i0 1 _ 34 (.int .i64 2) f1
  have g0 := (Below.heap_setCell w1 ⟨i0, 1, none⟩ (.int .i64 2) z (by have := HNE.out; show z ≠ i0; omega)).trans f0
  have g2 := (Below.heap_setCell w1 ⟨i0, 1, none⟩ (.int .i64 2) l0 (by have := HNE.out; show l0 ≠ i0; omega)).trans f2
  have g3 := (Below.heap_setCell w1 ⟨i0, 1, none⟩ (.int .i64 2) t0 (by have := HNE.out; show t0 ≠ i0; omega)).trans f3
  have g4 := (Below.heap_setCell w1 ⟨i0, 1, none⟩ (.int .i64 2) p0 (by have := HNE.out; show p0 ≠ i0; omega)).trans f4
  clear f0 f1 f2 f3 f4 hfr hcl HT1 HK1 HB1 hz1
  generalize w1.setCell ⟨i0, 1, none⟩ (.int .i64 2) = w2 at *
  have hp1 : w2.cell? ⟨p0, 1, none⟩ = some (.slice (some ⟨t0, 0, none⟩) 1 1) := cell_of_row _ _ _ _ _ _ g4
  have ht1 : w2.cell? ⟨t0, 0, none⟩ = some (.slice (some ⟨l0, 0, none⟩) 1 1) := cell_of_row _ _ _ _ _ _ g3
  have hi0 : w2.cell? ⟨i0, 0, none⟩ = some (.int .i64 2) := cell_of_row _ _ _ _ _ _ g1
  have hi1 : w2.cell? ⟨i0, 1, none⟩ = some (.int .i64 2) := cell_of_row _ _ _ _ _ _ g1
  have hi2 : w2.cell? ⟨i0, 2, none⟩ = some (.int .i64 0) := cell_of_row _ _ _ _ _ _ g1
  have hi3 : w2.cell? ⟨i0, 3, none⟩ = some (.int .i64 0) := cell_of_row _ _ _ _ _ _ g1
  have hi4 : w2.cell? ⟨i0, 4, none⟩ = some (.int .i64 0) := cell_of_row _ _ _ _ _ _ g1
  have hi5 : w2.cell? ⟨i0, 5, none⟩ = some (.slice (some ⟨z, 0, none⟩) 1 1) := cell_of_row _ _ _ _ _ _ g1
  have hi6 : w2.cell? ⟨i0, 6, none⟩ = some (.int .i64 0) := cell_of_row _ _ _ _ _ _ g1
  have hf0 : w2.frozen? ⟨l0, 0, none⟩ = false := frozen_of_row w2 l0 0 _ _ g2
  have hf1 : w2.frozen? ⟨l0, 1, none⟩ = false := frozen_of_row w2 l0 1 _ _ g2
  have hf2 : w2.frozen? ⟨l0, 2, none⟩ = false := frozen_of_row w2 l0 2 _ _ g2
  have hf3 : w2.frozen? ⟨l0, 3, none⟩ = false := frozen_of_row w2 l0 3 _ _ g2
  have hf4 : w2.frozen? ⟨l0, 4, none⟩ = false := frozen_of_row w2 l0 4 _ _ g2
  have hf5 : w2.frozen? ⟨l0, 5, none⟩ = false := frozen_of_row w2 l0 5 _ _ g2
  have hf6 : w2.frozen? ⟨l0, 6, none⟩ = false := frozen_of_row w2 l0 6 _ _ g2
  have hl0 : w2.cell? ⟨l0, 0, none⟩ = some (.int .i64 2) := cell_of_row _ _ _ _ _ _ g2
  have hl1 : w2.cell? ⟨l0, 1, none⟩ = some (.int .i64 1) := cell_of_row _ _ _ _ _ _ g2
  have hl2 : w2.cell? ⟨l0, 2, none⟩ = some (.int .i64 0) := cell_of_row _ _ _ _ _ _ g2
  have hl3 : w2.cell? ⟨l0, 3, none⟩ = some (.int .i64 0) := cell_of_row _ _ _ _ _ _ g2
  have hl4 : w2.cell? ⟨l0, 4, none⟩ = some (.int .i64 0) := cell_of_row _ _ _ _ _ _ g2
  have hl5 : w2.cell? ⟨l0, 5, none⟩ = some (.slice (some ⟨z, 0, none⟩) 1 1) := cell_of_row _ _ _ _ _ _ g2
  have hl6 : w2.cell? ⟨l0, 6, none⟩ = some (.int .i64 0) := cell_of_row _ _ _ _ _ _ g2
  go_region
  have hlz : ∀ j : Nat, z ≤ (⟨l0, j, none⟩ : Addr).block := fun _ => by have := HNE.out; show z ≤ l0; omega
  have HB3 : Hid (Below z w (((((((w2.setCell ⟨l0, 0, none⟩ (.int .i64 2)).setCell ⟨l0, 1, none⟩ (.int .i64 2)).setCell ⟨l0, 2, none⟩ (.int .i64 0)).setCell ⟨l0, 3, none⟩ (.int .i64 0)).setCell ⟨l0, 4, none⟩ (.int .i64 0)).setCell ⟨l0, 5, none⟩ (.slice (some ⟨z, 0, none⟩) 1 1)).setCell ⟨l0, 6, none⟩ (.int .i64 0))) := Lib.hid ((((((((HB2.out.setCell (hlz _) _).setCell (hlz _) _).setCell (hlz _) _).setCell (hlz _) _).setCell (hlz _) _).setCell (hlz _) _).setCell (hlz _) _))
  have k0 := (set7_far w2 l0 z (.int .i64 2) (.int .i64 2) (.int .i64 0) (.int .i64 0) (.int .i64 0) (.slice (some ⟨z, 0, none⟩) 1 1) (.int .i64 0) (by have := HNE.out; omega)).trans g0
  have k1 := (set7_far w2 l0 i0 (.int .i64 2) (.int .i64 2) (.int .i64 0) (.int .i64 0) (.int .i64 0) (.slice (some ⟨z, 0, none⟩) 1 1) (.int .i64 0) (by have := HNE.out; omega)).trans g1
  have k2 := set7_at w2 l0 34 _ _ _ _ _ _ _ (.int .i64 2) (.int .i64 2) (.int .i64 0) (.int .i64 0) (.int .i64 0) (.slice (some ⟨z, 0, none⟩) 1 1) (.int .i64 0) g2
  have k3 := (set7_far w2 l0 t0 (.int .i64 2) (.int .i64 2) (.int .i64 0) (.int .i64 0) (.int .i64 0) (.slice (some ⟨z, 0, none⟩) 1 1) (.int .i64 0) (by have := HNE.out; omega)).trans g3
  have k4 := (set7_far w2 l0 p0 (.int .i64 2) (.int .i64 2) (.int .i64 0) (.int .i64 0) (.int .i64 0) (.slice (some ⟨z, 0, none⟩) 1 1) (.int .i64 0) (by have := HNE.out; omega)).trans g4
  clear g0 g1 g2 g3 g4 hp1 ht1 hi0 hi1 hi2 hi3 hi4 hi5 hi6 hf0 hf1 hf2 hf3 hf4 hf5 hf6 hl0 hl1 hl2 hl3 hl4 hl5 hl6 hz2 hlz HB2 hzW
  generalize (((((((w2.setCell ⟨l0, 0, none⟩ (.int .i64 2)).setCell ⟨l0, 1, none⟩ (.int .i64 2)).setCell ⟨l0, 2, none⟩ (.int .i64 0)).setCell ⟨l0, 3, none⟩ (.int .i64 0)).setCell ⟨l0, 4, none⟩ (.int .i64 0)).setCell ⟨l0, 5, none⟩ (.slice (some ⟨z, 0, none⟩) 1 1)).setCell ⟨l0, 6, none⟩ (.int .i64 0)) = w30 at *
  have q0 : w30.drew.heap[z]? = _ := k0
  have q1 : w30.drew.heap[i0]? = _ := k1
  have q2 : w30.drew.heap[l0]? = _ := k2
  have q3 : w30.drew.heap[t0]? = _ := k3
  have q4 : w30.drew.heap[p0]? = _ := k4
  have HB30 := Lib.hid (HB3.out.drew)
  clear k0 k1 k2 k3 k4 HB3
  have HB3 := HB30
  clear HB30
  generalize w30.drew = w3 at *
  have k0 := q0
  have k1 := q1
  have k2 := q2
  have k3 := q3
  have k4 := q4
  clear q0 q1 q2 q3 q4
  have HK3 : Hid (KTab w3) := Lib.hid (HK.out.next (by rw [hz]; exact HB3.out))
  have ht : TIn w3 (some ⟨z, 0, none⟩) [(1, 1)] := .inr ⟨z, 0, rfl, (Array.getElem?_eq_some_iff.1 k0).1, fun q hq => by
    have e : q = 0 := by simpa using hq
    subst e
    exact ⟨cell_of_row _ _ _ _ _ _ k0, cell_of_row _ _ _ _ _ _ k0⟩⟩
  have hlc : LCells w3 l0 0 (awI z 2) := ⟨cell_of_row _ _ _ _ _ _ k2, cell_of_row _ _ _ _ _ _ k2, cell_of_row _ _ _ _ _ _ k2, cell_of_row _ _ _ _ _ _ k2, cell_of_row _ _ _ _ _ _ k2, cell_of_row _ _ _ _ _ _ k2, cell_of_row _ _ _ _ _ _ k2⟩
  have hth : ThIn w3 ⟨some ⟨l0, 0, none⟩, [awI z 2], 1⟩ := thin_one hlc ⟨ht, by show [((1 : Int), (1 : Int))].length ≤ 100; decide, fun _ => few_one 1⟩
  have HTH := Lib.hid hth
  have HT3 := Lib.hid ht
  have HCK : Hid (Calls Tryd.prog 9 #[.agg #[.int .i64 1, .slice (some ⟨t0, 0, none⟩) 1 1]] w3 fun e w' => e = .returned (.int .i64 0) ∧ Below w3.heap.size w3 w') := Lib.hid (by
    have h1 := progcheck_any 1 (some ⟨t0, 0, none⟩) [⟨some ⟨l0, 0, none⟩, [awI z 2], 1⟩] 1 w3 (prin_one (cell_of_row _ _ _ _ _ _ k3) hth) HK3.out (by decide) (by decide)
    rw [aw_ok] at h1
    exact h1)
  clear ht hlc hth k0 k2
  have hp0 : w3.cell? ⟨p0, 0, none⟩ = some (.int .i64 1) := cell_of_row _ _ _ _ _ _ k4
  have hp1 : w3.cell? ⟨p0, 1, none⟩ = some (.slice (some ⟨t0, 0, none⟩) 1 1) := cell_of_row _ _ _ _ _ _ k4
  have ht1 : w3.cell? ⟨t0, 0, none⟩ = some (.slice (some ⟨l0, 0, none⟩) 1 1) := cell_of_row _ _ _ _ _ _ k3
  have hi0 : w3.cell? ⟨i0, 0, none⟩ = some (.int .i64 2) := cell_of_row _ _ _ _ _ _ k1
  have hi1 : w3.cell? ⟨i0, 1, none⟩ = some (.int .i64 2) := cell_of_row _ _ _ _ _ _ k1
  have hi2 : w3.cell? ⟨i0, 2, none⟩ = some (.int .i64 0) := cell_of_row _ _ _ _ _ _ k1
  have hi3 : w3.cell? ⟨i0, 3, none⟩ = some (.int .i64 0) := cell_of_row _ _ _ _ _ _ k1
  have hi4 : w3.cell? ⟨i0, 4, none⟩ = some (.int .i64 0) := cell_of_row _ _ _ _ _ _ k1
  have hi5 : w3.cell? ⟨i0, 5, none⟩ = some (.slice (some ⟨z, 0, none⟩) 1 1) := cell_of_row _ _ _ _ _ _ k1
  have hi6 : w3.cell? ⟨i0, 6, none⟩ = some (.int .i64 0) := cell_of_row _ _ _ _ _ _ k1
  clear k1 k3 k4
  go_wp2_with fail
  refine HCK.out.mono ?_
  rintro e w4 ⟨rfl, hb4⟩
  have hp1 := cell_next hp1 hb4
  have ht1 := cell_next ht1 hb4
  have hi0 := cell_next hi0 hb4
  have hi1 := cell_next hi1 hb4
  have hi2 := cell_next hi2 hb4
  have hi3 := cell_next hi3 hb4
  have hi4 := cell_next hi4 hb4
  have hi5 := cell_next hi5 hb4
  have hi6 := cell_next hi6 hb4
  have HB4 := Lib.hid (HB3.out.trans (hb4.mono (by have := HB3.out.size; omega)))
  have HT4 := Lib.hid (HTH.out.next hb4)
  have HE4 := Lib.hid (HT3.out.next hb4)
  have HK4 := Lib.hid (HK3.out.next hb4)
  have hz4 : z ≤ w4.heap.size := by have := HB4.out.size; omega
  clear hb4 HTH HT3 HK3 HCK
  have HIN : Hid (Calls Tryd.prog 10 #[.agg #[.int .i64 2, .int .i64 2, .int .i64 0, .int .i64 0, .int .i64 0, .slice (some ⟨z, 0, none⟩) 1 1, .int .i64 0], .int .i64 1, .int .i64 0] w4 fun e w' => e = .returned (.bool true) ∧ Below w4.heap.size w4 w') := Lib.hid (by
    have h1 := instr_any 2 2 0 0 0 0 (some ⟨z, 0, none⟩) [(1, 1)] 1 1 0 w4 HE4.out HK4.out (by decide) (fun _ => few_one 1) (by decide) (by decide)
    rw [aw_instr] at h1
    exact h1)
  go_wp2_with fail
  refine HIN.out.mono ?_
  rintro e w5 ⟨rfl, hb5⟩
  have hp1 := cell_next hp1 hb5
  have ht1 := cell_next ht1 hb5
  have HB5 := Lib.hid (HB4.out.trans (hb5.mono hz4))
  have HT5 := Lib.hid (HT4.out.next hb5)
  have HK5 := Lib.hid (HK4.out.next hb5)
  have hz5 : z ≤ w5.heap.size := Nat.le_trans hz4 hb5.size
  clear hb5 HT4 HK4 HE4 HIN
  have HEV : Hid (Calls Tryd.prog 11 #[.slice (some ⟨l0, 0, none⟩) 1 1] w5 fun e w' => e = .returned (.int .i64 1) ∧ Below w5.heap.size w5 w') := Lib.hid (events_any (some ⟨l0, 0, none⟩) [awI z 2] 1 w5 HT5.out.lin HK5.out (by show 1 ≤ 1000; decide))
  go_wp2_with fail
  refine HEV.out.mono ?_
  rintro e w6 ⟨rfl, hb6⟩
  have hp1 := cell_next hp1 hb6
  have ht1 := cell_next ht1 hb6
  have HB6 := Lib.hid (HB5.out.trans (hb6.mono hz5))
  have hz6 : z ≤ w6.heap.size := Nat.le_trans hz5 hb6.size
  have HPA : Hid (Calls Tryd.prog 12 #[.slice (some ⟨l0, 0, none⟩) 1 1] w6 fun e w' => e = .returned (.int .i64 1) ∧ Below w6.heap.size w6 w') := Lib.hid (paths_any (some ⟨l0, 0, none⟩) [awI z 2] 1 w6 (HT5.out.next hb6).lin (by show 1 ≤ 1000; decide))
  clear hb6 HT5 HK5 HEV
  go_wp2_with fail
  refine HPA.out.mono ?_
  rintro e w7 ⟨rfl, hb7⟩
  go_wp2_with fail
  go_ret
  rw [hz]
  exact ⟨rfl, HB6.out.trans (hb7.mono hz6)⟩
end Go.Proofs.YtkfepcmgbmnceaaDoor
