import Derived.Test.YtkfepcmgbmnceaaDoorSndH
namespace Go.Proofs.YtkfepcmgbmnceaaDoor
open Go.RowKit ExprA SndA
set_option maxRecDepth 100000 in
set_option maxHeartbeats 4000000 in
theorem progcheck_any (locs : Int) (pa : Option Addr) (P : List Th) (c : Nat) (w : World) (h : PrIn w pa P) (hk : KTab w) (hl1 : 1 ≤ locs) (hl4 : locs ≤ 4) :
    Calls Tryd.prog 9 #[.agg #[.int .i64 locs, .slice pa P.length c]] w fun e w' => e = .returned (.int .i64 (errB locs P)) ∧ Below w.heap.size w w' := by
  have HB0 := Lib.hid (fun o : Obj => (Below.refl w.heap.size w).alloc (Nat.le_refl _) o)
  have HF := Lib.hid (fun o : Obj => formed_any locs pa P c (w.alloc o) (h.next (HB0.out o)) (hk.next (HB0.out o)) hl1 hl4)
  have HG := Lib.hid (fun (o : Obj) w2 (hb : Below (w.alloc o).heap.size (w.alloc o) w2) => big_any locs pa P c w2 ((h.next (HB0.out o)).next hb) ((hk.next (HB0.out o)).next hb) hl1 hl4)
  have HC := Lib.hid (fun w2 (hb : Below (w.alloc (.cells #[.int .i64 locs, .slice pa P.length c] 26 (0, 0))).heap.size (w.alloc (.cells #[.int .i64 locs, .slice pa P.length c] 26 (0, 0))) w2) => (hb.block w.heap.size (by simp)).trans (heap_alloc_new w (.cells #[.int .i64 locs, .slice pa P.length c] 26 (0, 0))))
  clear h hk
  unfold errB
  cases hf : formB locs P with
  | false =>
    rw [hf] at HF
    go_enter Tryd.func9, Tryd.ntmps9
    go_wp2_with fail
    refine (HF.out _).mono ?_
    rintro e w2 ⟨rfl, hb2⟩
    go_wp2_with fail
    go_ret
    exact ⟨rfl, below_next (HB0.out _) hb2⟩
  | true =>
    rw [hf] at HF
    cases hg : bigB locs P with
    | false =>
      rw [hg] at HG
      go_enter Tryd.func9, Tryd.ntmps9
      go_wp2_with fail
      refine (HF.out _).mono ?_
      rintro e w2 ⟨rfl, hb2⟩
      have hh := HC.out w2 hb2
      have c0 : w2.cell? ⟨w.heap.size, 0, none⟩ = some (.int .i64 locs) := cell_of_row _ _ _ _ _ _ hh
      have c1 : w2.cell? ⟨w.heap.size, 1, none⟩ = some (.slice pa P.length c) := cell_of_row _ _ _ _ _ _ hh
      clear hh
      go_wp2_with fail
      refine (HG.out _ w2 hb2).mono ?_
      rintro e w3 ⟨rfl, hb3⟩
      go_wp2_with fail
      go_ret
      exact ⟨rfl, below_next (below_next (HB0.out _) hb2) hb3⟩
    | true =>
      rw [hg] at HG
      go_enter Tryd.func9, Tryd.ntmps9
      go_wp2_with fail
      refine (HF.out _).mono ?_
      rintro e w2 ⟨rfl, hb2⟩
      have hh := HC.out w2 hb2
      have c0 : w2.cell? ⟨w.heap.size, 0, none⟩ = some (.int .i64 locs) := cell_of_row _ _ _ _ _ _ hh
      have c1 : w2.cell? ⟨w.heap.size, 1, none⟩ = some (.slice pa P.length c) := cell_of_row _ _ _ _ _ _ hh
      clear hh
      go_wp2_with fail
      refine (HG.out _ w2 hb2).mono ?_
      rintro e w3 ⟨rfl, hb3⟩
      go_wp2_with fail
      go_ret
      exact ⟨rfl, below_next (below_next (HB0.out _) hb2) hb3⟩
end Go.Proofs.YtkfepcmgbmnceaaDoor
