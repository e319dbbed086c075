import Derived.Test.YtcmjmojbocmcgaaDoorQ
import Derived.OwnWalk
import Derived.Laws.AppendOwn
import Derived.Laws.ResultCell
import Derived.Deep.AppendLies
import Derived.BigQuiet
namespace Go.Proofs.YtcmjmojbocmcgaaDoor
open Go.RowKit ExprA
set_option maxRecDepth 100000 in
set_option maxHeartbeats 1600000 in
theorem opw_any (v : Int) (w : World) : Calls Tryd.prog 18 #[.int .i64 v] w fun e w' => e = .returned (.agg #[.int .i64 3, .int .i64 v]) ∧ Below w.heap.size w w' := by
  go_enter Tryd.func18, Tryd.ntmps18
  go_wp2_with fail
  refine bodyPost_ret (v := .agg #[.int .i64 3, .int .i64 v]) ?_ rfl ⟨rfl, (Below.refl _ _).alloc (Nat.le_refl _) _⟩
  exact results_cell_row rfl _ _ w.heap.size 34 #[.int .i64 3, .int .i64 v] (0, 0) _ rfl (heap_alloc_new _ _) Tryd.underlying34 rfl (by kernel_rfl)
set_option maxRecDepth 100000 in
set_option maxHeartbeats 1600000 in
theorem regw_any (v : Int) (w : World) : Calls Tryd.prog 19 #[.int .i64 v] w fun e w' => e = .returned (.agg #[.int .i64 2, .int .i64 v]) ∧ Below w.heap.size w w' := by
  go_enter Tryd.func19, Tryd.ntmps19
  go_wp2_with fail
  refine bodyPost_ret (v := .agg #[.int .i64 2, .int .i64 v]) ?_ rfl ⟨rfl, (Below.refl _ _).alloc (Nat.le_refl _) _⟩
  exact results_cell_row rfl _ _ w.heap.size 34 #[.int .i64 2, .int .i64 v] (0, 0) _ rfl (heap_alloc_new _ _) Tryd.underlying34 rfl (by kernel_rfl)
set_option maxRecDepth 100000 in
set_option maxHeartbeats 1600000 in
theorem numw_any (v : Int) (w : World) : Calls Tryd.prog 20 #[.int .i64 v] w fun e w' => e = .returned (.agg #[.int .i64 1, .int .i64 v]) ∧ Below w.heap.size w w' := by
  go_enter Tryd.func20, Tryd.ntmps20
  go_wp2_with fail
  refine bodyPost_ret (v := .agg #[.int .i64 1, .int .i64 v]) ?_ rfl ⟨rfl, (Below.refl _ _).alloc (Nat.le_refl _) _⟩
  exact results_cell_row rfl _ _ w.heap.size 34 #[.int .i64 1, .int .i64 v] (0, 0) _ rfl (heap_alloc_new _ _) Tryd.underlying34 rfl (by kernel_rfl)
set_option maxRecDepth 100000 in
set_option maxHeartbeats 4000000 in
/-- Same of the same words -/
theorem same_any (a a2 : Option Addr) (T : List (Int × Int)) (c c2 : Nat) (w : World) (h : TIn w a T) (h2 : TIn w a2 T) (h9 : T.length ≤ 9) :
    Calls Tryd.prog 12 #[.slice a T.length c, .slice a2 T.length c2] w fun e w' => e = .returned (.bool true) ∧ Below w.heap.size w w' := by
  have H1 := Lib.hid h
  have H2 := Lib.hid h2
  clear h h2
  go_enter Tryd.func12, Tryd.ntmps12
  go_wp2_with fail
  go_loopw [5] (fun x wr => ∃ q : Nat, q ≤ T.length ∧ x = .int .i64 q ∧ Below w.heap.size w wr) (fun x _ => T.length - (intOf x).toNat)
  case atStart => exact ⟨0, Nat.zero_le _, rfl, Below.refl _ _⟩
  case round =>
    obtain ⟨q, hq, rfl, hbe⟩ := hrel
    have hq9 : (q : Int) ≤ 9 := by omega
    by_cases hlt : q < T.length
    · have hqi : (q : Int) < (T.length : Int) := by omega
      have hdk : decide ((q : Int) < (T.length : Int)) = true := by simp; omega
      rcases H1.out.next hbe with h0 | ⟨b, o, rfl, hbl, hcc⟩
      · rw [h0] at hlt; simp at hlt
      · rcases H2.out.next hbe with h0 | ⟨b2, o2, rfl, hbl2, hcc2⟩
        · rw [h0] at hlt; simp at hlt
        · have hc1 := (hcc q hlt).1
          have hc2 := (hcc q hlt).2
          have hc3 := (hcc2 q hlt).1
          have hc4 := (hcc2 q hlt).2
          clear hcc hcc2
          generalize T.getD q (0, 0) = pp at *
          obtain ⟨tk, tv⟩ := pp
          dsimp only at hc1 hc2 hc3 hc4
          have hn1 : (tk != tk) = false := by simp
          have hn2 : (tv != tv) = false := by simp
          have HB := Lib.hid hbe
          clear hbe
          go_wp2_with fail
          go_quiet (fail)
          go_wp2_with fail
          go_roundw
          case rel => exact ⟨q + 1, hlt, by go_num, below_next HB.out (bel_drewN _ _)⟩
          case measure => simp [intOf]; omega
    · have hdk : decide ((q : Int) < (T.length : Int)) = false := by simp; omega
      go_wp2_with fail
      go_ret
      exact ⟨rfl, hbe⟩
end Go.Proofs.YtcmjmojbocmcgaaDoor
