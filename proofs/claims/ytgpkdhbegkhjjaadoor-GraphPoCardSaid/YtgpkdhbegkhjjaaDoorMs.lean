/-
  What the functions that the law reaches do, one by one: contracts. Conditions: those that each of them prints.
-/
import Derived.Test.YtgpkdhbegkhjjaaDoorMg
import Derived.Deep.RegionWith
import Derived.Deep.DrawnRows
import Derived.Test.YtgpkdhbegkhjjaaDoorMq
import Derived.Deep.RegionHeld3
import Derived.Test.YtgpkdhbegkhjjaaDoorMo
import Derived.Test.YtgpkdhbegkhjjaaDoorMk
import Derived.Handy
import Derived.Deep.QuietTactic
namespace Go.Proofs.YtgpkdhbegkhjjaaDoor
open Go.RowKit RelA
attribute [local go_sem ↓] Go.wp_at_zero Go.wp_at_succ
namespace RelA
def inSet (E : List Ev) (p : Ev → Bool) (i : Int) : Bool := (decide (0 ≤ i) && decide (i < (E.length : Int))) && p (Ev.at E i.toNat)
theorem inSet_neg {E : List Ev} {p : Ev → Bool} {i : Int} (h : ¬ 0 ≤ i) : inSet E p i = false := by unfold inSet; simp [h]
theorem inSet_out {E : List Ev} {p : Ev → Bool} {n : Nat} (h : ¬ n < E.length) : inSet E p (n : Int) = false := by
  unfold inSet
  rw [decide_eq_false (show ¬ ((n : Int) < (E.length : Int)) by omega)]
  simp
theorem inSet_at {E : List Ev} {p : Ev → Bool} {n : Nat} (h : n < E.length) : inSet E p (n : Int) = p (Ev.at E n) := by
  unfold inSet
  rw [decide_eq_true (show (n : Int) < (E.length : Int) by omega), decide_eq_true (show (0 : Int) ≤ (n : Int) by omega)]
  rfl
def pRd1 (e : Ev) : Bool := e.kd == 1
def pWr1 (loc : Int) (e : Ev) : Bool := (e.kd == 2) && (e.lc == loc)
def pEx1 (e : Ev) : Bool := e.ex
end RelA
set_option maxRecDepth 20000 in
set_option maxHeartbeats 3200000 in
theorem fn_rd (e : Ev) (w : World) : Calls Tryd.prog 35 #[e.v] w fun en w' => en = .returned (.bool (pRd1 e)) ∧ Below w.heap.size w w' := by
  obtain ⟨x0, x1, x2, x3, x4, x5⟩ := e
  have HB : Hid (Below w.heap.size w (w.alloc (Obj.cells #[.int .i64 x0, .int .i64 x1, .int .i64 x2, .int .i64 x3, .int .i64 x4, .bool x5] 30 (0, 0)))) := Lib.hid ((Below.refl _ _).alloc (Nat.le_refl _) _)
  unfold pRd1 Ev.v
  dsimp only
  go_enter Tryd.func35, Tryd.ntmps35
  go_wp2_with fail
  go_ret
  exact ⟨rfl, HB.out⟩
set_option maxRecDepth 20000 in
set_option maxHeartbeats 3200000 in
theorem has_rd (ea : Option Addr) (E : List Ev) (ec : Nat) (i : Int) (w : World) (h : EsIn w ea E) (hE : E.length ≤ 100) :
    Calls Tryd.prog 25 #[.agg #[.slice ea E.length ec, .func (.func 35) #[] #[]], .int .i64 i] w fun en w' => en = .returned (.bool (inSet E pRd1 i)) ∧ Below w.heap.size w w' := by
  have HB : Hid (∀ o, Below w.heap.size w ((w.alloc o).drew)) := Lib.hid (fun o => ((Below.refl _ _).alloc (Nat.le_refl _) o).drew)
  by_cases h0 : 0 ≤ i
  · obtain ⟨n, rfl⟩ := Int.eq_ofNat_of_zero_le h0
    have hd0 : decide ((0 : Int) ≤ (n : Int)) = true := by simp
    by_cases hi : n < E.length
    · rw [inSet_at hi]
      have HC := Lib.hid (fun (w' : World) (_ : Below w.heap.size w w') => fn_rd (Ev.at E n) w')
      have hlt := hi
      have hdk : decide ((n : Int) < (E.length : Int)) = true := by simp; omega
      have hqi : (n : Int) < (E.length : Int) := by omega
      have hi100 : (n : Int) < 100 := by omega
      rcases h.next ((Below.refl w.heap.size w).alloc (Nat.le_refl _) (Obj.cells #[.slice ea E.length ec, .func (.func 35) #[] #[]] 54 (0, 0))) with h1 | ⟨b, o, rfl, hbl, hcc⟩
      · rw [h1] at hlt; simp at hlt
      · obtain ⟨d0, d1, d2, d3, d4, d5⟩ := hcc n hi
        clear hcc hi
        change _ = some (Value.int _ (Ev.at E n).th) at d0
        change _ = some (Value.int _ (Ev.at E n).kd) at d1
        change _ = some (Value.int _ (Ev.at E n).md) at d2
        change _ = some (Value.int _ (Ev.at E n).lc) at d3
        change _ = some (Value.int _ (Ev.at E n).vl) at d4
        change _ = some (Value.bool (Ev.at E n).ex) at d5
        generalize Ev.at E n = ev at *
        obtain ⟨x0, x1, x2, x3, x4, x5⟩ := ev
        dsimp only [Ev.v] at d0 d1 d2 d3 d4 d5 HC
        generalize pRd1 ⟨x0, x1, x2, x3, x4, x5⟩ = pb at *
        go_enter Tryd.func25, Tryd.ntmps25
        go_wp2_with fail
        go_region_with (first
          | (go_at_call 35; refine (HC.out _ (HB.out _)).mono ?_; rintro en w' ⟨rfl, hb2⟩; have HB2 := Lib.hid (below_next (HB.out _) hb2); clear hb2))
        all_goals go_wp2_with fail
        all_goals go_ret
        all_goals exact ⟨rfl, HB2.out⟩
    · rw [inSet_out hi]
      have hdk : decide ((n : Int) < (E.length : Int)) = false := by simp; omega
      have hdn : decide (n < E.length) = false := by simp; omega
      clear h hi
      go_enter Tryd.func25, Tryd.ntmps25
      go_wp2_with fail
      go_region
      all_goals go_wp2_with fail
      all_goals go_ret
      all_goals exact ⟨rfl, HB.out _⟩
  · rw [inSet_neg h0]
    have hd0 : decide ((0 : Int) ≤ i) = false := by simp [h0]
    clear h h0
    go_enter Tryd.func25, Tryd.ntmps25
    go_wp2_with fail
    go_region
    all_goals go_wp2_with fail
    all_goals go_ret
    all_goals exact ⟨rfl, HB.out _⟩
set_option maxRecDepth 20000 in
set_option maxHeartbeats 3200000 in
theorem fn_wr (e : Ev) (lb : Nat) (loc : Int) (w : World) (hk : w.cell? ⟨lb, 0, none⟩ = some (.int .i64 loc)) : Calls Tryd.prog 33 #[e.v, .pointer (some ⟨lb, 0, none⟩)] w fun en w' => en = .returned (.bool ((pWr1 loc) e)) ∧ Below w.heap.size w w' := by
  obtain ⟨x0, x1, x2, x3, x4, x5⟩ := e
  have HB : Hid (Below w.heap.size w (w.alloc (Obj.cells #[.int .i64 x0, .int .i64 x1, .int .i64 x2, .int .i64 x3, .int .i64 x4, .bool x5] 30 (0, 0)))) := Lib.hid ((Below.refl _ _).alloc (Nat.le_refl _) _)
  have hk3 := cell_next hk ((Below.refl w.heap.size w).alloc (Nat.le_refl _) (Obj.cells #[.int .i64 x0, .int .i64 x1, .int .i64 x2, .int .i64 x3, .int .i64 x4, .bool x5] 30 (0, 0)))
  unfold pWr1 Ev.v
  dsimp only
  clear hk
  by_cases h1 : x1 = 2
  · have d1 : (x1 == 2) = true := by simp [h1]
    have HR : Hid (((x1 == 2) && (x3 == loc)) = (x3 == loc)) := Lib.hid (by simp [h1])
    rw [HR.out]
    clear h1
    go_enter Tryd.func33, Tryd.ntmps33
    go_wp2_with fail
    go_ret
    exact ⟨rfl, HB.out⟩
  · have d1 : (x1 == 2) = false := by simp [h1]
    have HR : Hid (((x1 == 2) && (x3 == loc)) = false) := Lib.hid (by simp [h1])
    rw [HR.out]
    clear h1
    go_enter Tryd.func33, Tryd.ntmps33
    go_wp2_with fail
    go_ret
    exact ⟨rfl, HB.out⟩
set_option maxRecDepth 20000 in
set_option maxHeartbeats 3200000 in
theorem has_wr (ea : Option Addr) (E : List Ev) (ec : Nat) (i : Int) (lb : Nat) (loc : Int) (w : World) (h : EsIn w ea E) (hE : E.length ≤ 100) (hk : w.cell? ⟨lb, 0, none⟩ = some (.int .i64 loc)) :
    Calls Tryd.prog 25 #[.agg #[.slice ea E.length ec, .func (.func 33) #[] #[.pointer (some ⟨lb, 0, none⟩)]], .int .i64 i] w fun en w' => en = .returned (.bool (inSet E (pWr1 loc) i)) ∧ Below w.heap.size w w' := by
  have HB : Hid (∀ o, Below w.heap.size w ((w.alloc o).drew)) := Lib.hid (fun o => ((Below.refl _ _).alloc (Nat.le_refl _) o).drew)
  by_cases h0 : 0 ≤ i
  · obtain ⟨n, rfl⟩ := Int.eq_ofNat_of_zero_le h0
    have hd0 : decide ((0 : Int) ≤ (n : Int)) = true := by simp
    by_cases hi : n < E.length
    · rw [inSet_at hi]
      have HC := Lib.hid (fun (w' : World) (hb : Below w.heap.size w w') => fn_wr (Ev.at E n) lb loc w' (cell_next hk hb))
      have hlt := hi
      have hdk : decide ((n : Int) < (E.length : Int)) = true := by simp; omega
      have hqi : (n : Int) < (E.length : Int) := by omega
      have hi100 : (n : Int) < 100 := by omega
      rcases h.next ((Below.refl w.heap.size w).alloc (Nat.le_refl _) (Obj.cells #[.slice ea E.length ec, .func (.func 33) #[] #[.pointer (some ⟨lb, 0, none⟩)]] 54 (0, 0))) with h1 | ⟨b, o, rfl, hbl, hcc⟩
      · rw [h1] at hlt; simp at hlt
      · obtain ⟨d0, d1, d2, d3, d4, d5⟩ := hcc n hi
        clear hcc hi
        change _ = some (Value.int _ (Ev.at E n).th) at d0
        change _ = some (Value.int _ (Ev.at E n).kd) at d1
        change _ = some (Value.int _ (Ev.at E n).md) at d2
        change _ = some (Value.int _ (Ev.at E n).lc) at d3
        change _ = some (Value.int _ (Ev.at E n).vl) at d4
        change _ = some (Value.bool (Ev.at E n).ex) at d5
        generalize Ev.at E n = ev at *
        obtain ⟨x0, x1, x2, x3, x4, x5⟩ := ev
        dsimp only [Ev.v] at d0 d1 d2 d3 d4 d5 HC
        generalize pWr1 loc ⟨x0, x1, x2, x3, x4, x5⟩ = pb at *
        go_enter Tryd.func25, Tryd.ntmps25
        go_wp2_with fail
        go_region_with (first
          | (go_at_call 33; refine (HC.out _ (HB.out _)).mono ?_; rintro en w' ⟨rfl, hb2⟩; have HB2 := Lib.hid (below_next (HB.out _) hb2); clear hb2))
        all_goals go_wp2_with fail
        all_goals go_ret
        all_goals exact ⟨rfl, HB2.out⟩
    · rw [inSet_out hi]
      have hdk : decide ((n : Int) < (E.length : Int)) = false := by simp; omega
      have hdn : decide (n < E.length) = false := by simp; omega
      clear h hi
      go_enter Tryd.func25, Tryd.ntmps25
      go_wp2_with fail
      go_region
      all_goals go_wp2_with fail
      all_goals go_ret
      all_goals exact ⟨rfl, HB.out _⟩
  · rw [inSet_neg h0]
    have hd0 : decide ((0 : Int) ≤ i) = false := by simp [h0]
    clear h h0
    go_enter Tryd.func25, Tryd.ntmps25
    go_wp2_with fail
    go_region
    all_goals go_wp2_with fail
    all_goals go_ret
    all_goals exact ⟨rfl, HB.out _⟩
set_option maxRecDepth 20000 in
set_option maxHeartbeats 3200000 in
theorem fn_xm (e : Ev) (w : World) : Calls Tryd.prog 29 #[e.v] w fun en w' => en = .returned (.bool (pEx1 e)) ∧ Below w.heap.size w w' := by
  obtain ⟨x0, x1, x2, x3, x4, x5⟩ := e
  have HB : Hid (Below w.heap.size w (w.alloc (Obj.cells #[.int .i64 x0, .int .i64 x1, .int .i64 x2, .int .i64 x3, .int .i64 x4, .bool x5] 30 (0, 0)))) := Lib.hid ((Below.refl _ _).alloc (Nat.le_refl _) _)
  unfold pEx1 Ev.v
  dsimp only
  go_enter Tryd.func29, Tryd.ntmps29
  go_wp2_with fail
  go_ret
  exact ⟨rfl, HB.out⟩
set_option maxRecDepth 20000 in
set_option maxHeartbeats 3200000 in
theorem has_xm (ea : Option Addr) (E : List Ev) (ec : Nat) (i : Int) (w : World) (h : EsIn w ea E) (hE : E.length ≤ 100) :
    Calls Tryd.prog 25 #[.agg #[.slice ea E.length ec, .func (.func 29) #[] #[]], .int .i64 i] w fun en w' => en = .returned (.bool (inSet E pEx1 i)) ∧ Below w.heap.size w w' := by
  have HB : Hid (∀ o, Below w.heap.size w ((w.alloc o).drew)) := Lib.hid (fun o => ((Below.refl _ _).alloc (Nat.le_refl _) o).drew)
  by_cases h0 : 0 ≤ i
  · obtain ⟨n, rfl⟩ := Int.eq_ofNat_of_zero_le h0
    have hd0 : decide ((0 : Int) ≤ (n : Int)) = true := by simp
    by_cases hi : n < E.length
    · rw [inSet_at hi]
      have HC := Lib.hid (fun (w' : World) (_ : Below w.heap.size w w') => fn_xm (Ev.at E n) w')
      have hlt := hi
      have hdk : decide ((n : Int) < (E.length : Int)) = true := by simp; omega
      have hqi : (n : Int) < (E.length : Int) := by omega
      have hi100 : (n : Int) < 100 := by omega
      rcases h.next ((Below.refl w.heap.size w).alloc (Nat.le_refl _) (Obj.cells #[.slice ea E.length ec, .func (.func 29) #[] #[]] 54 (0, 0))) with h1 | ⟨b, o, rfl, hbl, hcc⟩
      · rw [h1] at hlt; simp at hlt
      · obtain ⟨d0, d1, d2, d3, d4, d5⟩ := hcc n hi
        clear hcc hi
        change _ = some (Value.int _ (Ev.at E n).th) at d0
        change _ = some (Value.int _ (Ev.at E n).kd) at d1
        change _ = some (Value.int _ (Ev.at E n).md) at d2
        change _ = some (Value.int _ (Ev.at E n).lc) at d3
        change _ = some (Value.int _ (Ev.at E n).vl) at d4
        change _ = some (Value.bool (Ev.at E n).ex) at d5
        generalize Ev.at E n = ev at *
        obtain ⟨x0, x1, x2, x3, x4, x5⟩ := ev
        dsimp only [Ev.v] at d0 d1 d2 d3 d4 d5 HC
        generalize pEx1 ⟨x0, x1, x2, x3, x4, x5⟩ = pb at *
        go_enter Tryd.func25, Tryd.ntmps25
        go_wp2_with fail
        go_region_with (first
          | (go_at_call 29; refine (HC.out _ (HB.out _)).mono ?_; rintro en w' ⟨rfl, hb2⟩; have HB2 := Lib.hid (below_next (HB.out _) hb2); clear hb2))
        all_goals go_wp2_with fail
        all_goals go_ret
        all_goals exact ⟨rfl, HB2.out⟩
    · rw [inSet_out hi]
      have hdk : decide ((n : Int) < (E.length : Int)) = false := by simp; omega
      have hdn : decide (n < E.length) = false := by simp; omega
      clear h hi
      go_enter Tryd.func25, Tryd.ntmps25
      go_wp2_with fail
      go_region
      all_goals go_wp2_with fail
      all_goals go_ret
      all_goals exact ⟨rfl, HB.out _⟩
  · rw [inSet_neg h0]
    have hd0 : decide ((0 : Int) ≤ i) = false := by simp [h0]
    clear h h0
    go_enter Tryd.func25, Tryd.ntmps25
    go_wp2_with fail
    go_region
    all_goals go_wp2_with fail
    all_goals go_ret
    all_goals exact ⟨rfl, HB.out _⟩
end Go.Proofs.YtgpkdhbegkhjjaaDoor
namespace Go.Proofs.YtgpkdhbegkhjjaaDoor
open Go.RowKit RelA
attribute [local go_sem ↓] Go.wp_at_zero Go.wp_at_succ
namespace RelA
/-- how many of the events ahead of k -/
def cntP (E : List Ev) (p : Ev → Bool) : Nat → Nat
  | 0 => 0
  | k + 1 => cntP E p k + (if p (Ev.at E k) = true then 1 else 0)
theorem cntP_le (E : List Ev) (p : Ev → Bool) (k : Nat) : cntP E p k ≤ k := by
  induction k with
  | zero => exact Nat.le_refl _
  | succ k ih => unfold cntP; split <;> omega
end RelA
set_option maxRecDepth 20000 in
set_option maxHeartbeats 3200000 in
theorem count_wr (ea : Option Addr) (E : List Ev) (ec : Nat) (lb : Nat) (loc : Int) (w : World) (h : EsIn w ea E) (hE : E.length ≤ 100) (hk : w.cell? ⟨lb, 0, none⟩ = some (.int .i64 loc)) :
    Calls Tryd.prog 26 #[.agg #[.slice ea E.length ec, .func (.func 33) #[] #[.pointer (some ⟨lb, 0, none⟩)]]] w fun en w' => en = .returned (.int .i64 (cntP E (pWr1 loc) E.length)) ∧ Below w.heap.size w w' := by
  have HH := Lib.hid (fun (i : Nat) w' (hb : Below w.heap.size w w') => has_wr ea E ec i lb loc w' (h.next hb) hE (cell_next hk hb))
  clear h hk
  go_enter Tryd.func26, Tryd.ntmps26
  go_wp2_with fail
  obtain ⟨w1, hw1⟩ : ∃ x, x = w.alloc (Obj.cells #[.slice ea E.length ec, .func (.func 33) #[] #[.pointer (some ⟨lb, 0, none⟩)]] 54 (0, 0)) := ⟨_, rfl⟩
  rw [← hw1]
  have HB1 : Hid (Below w.heap.size w w1) := Lib.hid (by rw [hw1]; exact (Below.refl _ _).alloc (Nat.le_refl _) _)
  have f0 : w1.cell? ⟨w.heap.size, 0, none⟩ = some (.slice ea E.length ec) := by rw [hw1, cell_of_row _ _ _ _ _ _ (heap_alloc_new _ _)]; rfl
  have f1 : w1.cell? ⟨w.heap.size, 1, none⟩ = some (.func (.func 33) #[] #[.pointer (some ⟨lb, 0, none⟩)]) := by rw [hw1, cell_of_row _ _ _ _ _ _ (heap_alloc_new _ _)]; rfl
  have F0 := Lib.hid f0
  have F1 := Lib.hid f1
  clear hw1 f0 f1
  go_loopw [3, 8] (fun v x wr => ∃ k : Nat, k ≤ E.length ∧ x = .int .i64 k ∧ v = .int .i64 (cntP E (pWr1 loc) k) ∧ Below w1.heap.size w1 wr) (fun _ x _ => E.length - (intOf x).toNat)
  case atStart => exact ⟨0, Nat.zero_le _, rfl, rfl, Below.refl _ _⟩
  case round =>
    obtain ⟨k, hk, rfl, rfl, hbe⟩ := hrel
    have hcl := cntP_le E (pWr1 loc) k
    have HBE := Lib.hid hbe
    have HBw := Lib.hid (below_next HB1.out hbe)
    by_cases hlt : k < E.length
    · have hdk : decide ((k : Int) < (E.length : Int)) = true := by simp; omega
      have hk100 : (k : Int) < 100 := by omega
      have f0 := cell_next F0.out hbe
      have f1 := cell_next F1.out hbe
      have HC := Lib.hid (HH.out k wr HBw.out)
      rw [inSet_at hlt] at HC
      have HST : Hid (cntP E (pWr1 loc) (k + 1) = cntP E (pWr1 loc) k + (if (pWr1 loc) (Ev.at E k) = true then 1 else 0)) := Lib.hid rfl
      generalize cntP E (pWr1 loc) k = N at *
      have hN9 : (N : Int) < 1000 := by omega
      clear hbe
      go_wp2_with fail
      refine HC.out.mono ?_
      rintro e w3 ⟨rfl, hb3⟩
      have HBE3 := Lib.hid (below_next HBE.out hb3)
      clear f0 f1 HC hb3
      cases hpv : pWr1 loc (Ev.at E k)
      · rw [hpv] at HST
        have HS2 := Lib.hid (show cntP E (pWr1 loc) (k + 1) = N by rw [HST.out]; rfl)
        clear hpv HST
        go_wp2_with fail
        go_roundw
        case rel => exact ⟨k + 1, by omega, by go_num, by rw [HS2.out], HBE3.out⟩
        case measure => simp [intOf]; omega
      · rw [hpv] at HST
        have HS2 := Lib.hid (show cntP E (pWr1 loc) (k + 1) = N + 1 by rw [HST.out]; rfl)
        clear hpv HST
        go_wp2_with fail
        go_roundw
        case rel => exact ⟨k + 1, by omega, by go_num, by rw [HS2.out]; go_num, HBE3.out⟩
        case measure => simp [intOf]; omega
    · have hdk : decide ((k : Int) < (E.length : Int)) = false := by simp; omega
      have hke : k = E.length := by omega
      rw [hke]
      rw [hke] at hcl
      obtain ⟨N, hN⟩ : ∃ N, N = cntP E (pWr1 loc) E.length := ⟨_, rfl⟩
      rw [← hN] at hcl ⊢
      have HN := Lib.hid hN
      clear hN
      have hN9 : (N : Int) < 1000 := by omega
      clear hke hbe
      go_wp2_with fail
      go_ret
      exact ⟨by rw [← HN.out]; rfl, HBw.out⟩
set_option maxRecDepth 20000 in
set_option maxHeartbeats 3200000 in
theorem count_xm (ea : Option Addr) (E : List Ev) (ec : Nat) (w : World) (h : EsIn w ea E) (hE : E.length ≤ 100) :
    Calls Tryd.prog 26 #[.agg #[.slice ea E.length ec, .func (.func 29) #[] #[]]] w fun en w' => en = .returned (.int .i64 (cntP E pEx1 E.length)) ∧ Below w.heap.size w w' := by
  have HH := Lib.hid (fun (i : Nat) w' (hb : Below w.heap.size w w') => has_xm ea E ec i w' (h.next hb) hE)
  clear h
  go_enter Tryd.func26, Tryd.ntmps26
  go_wp2_with fail
  obtain ⟨w1, hw1⟩ : ∃ x, x = w.alloc (Obj.cells #[.slice ea E.length ec, .func (.func 29) #[] #[]] 54 (0, 0)) := ⟨_, rfl⟩
  rw [← hw1]
  have HB1 : Hid (Below w.heap.size w w1) := Lib.hid (by rw [hw1]; exact (Below.refl _ _).alloc (Nat.le_refl _) _)
  have f0 : w1.cell? ⟨w.heap.size, 0, none⟩ = some (.slice ea E.length ec) := by rw [hw1, cell_of_row _ _ _ _ _ _ (heap_alloc_new _ _)]; rfl
  have f1 : w1.cell? ⟨w.heap.size, 1, none⟩ = some (.func (.func 29) #[] #[]) := by rw [hw1, cell_of_row _ _ _ _ _ _ (heap_alloc_new _ _)]; rfl
  have F0 := Lib.hid f0
  have F1 := Lib.hid f1
  clear hw1 f0 f1
  go_loopw [3, 8] (fun v x wr => ∃ k : Nat, k ≤ E.length ∧ x = .int .i64 k ∧ v = .int .i64 (cntP E pEx1 k) ∧ Below w1.heap.size w1 wr) (fun _ x _ => E.length - (intOf x).toNat)
  case atStart => exact ⟨0, Nat.zero_le _, rfl, rfl, Below.refl _ _⟩
  case round =>
    obtain ⟨k, hk, rfl, rfl, hbe⟩ := hrel
    have hcl := cntP_le E pEx1 k
    have HBE := Lib.hid hbe
    have HBw := Lib.hid (below_next HB1.out hbe)
    by_cases hlt : k < E.length
    · have hdk : decide ((k : Int) < (E.length : Int)) = true := by simp; omega
      have hk100 : (k : Int) < 100 := by omega
      have f0 := cell_next F0.out hbe
      have f1 := cell_next F1.out hbe
      have HC := Lib.hid (HH.out k wr HBw.out)
      rw [inSet_at hlt] at HC
      have HST : Hid (cntP E pEx1 (k + 1) = cntP E pEx1 k + (if pEx1 (Ev.at E k) = true then 1 else 0)) := Lib.hid rfl
      generalize cntP E pEx1 k = N at *
      have hN9 : (N : Int) < 1000 := by omega
      clear hbe
      go_wp2_with fail
      refine HC.out.mono ?_
      rintro e w3 ⟨rfl, hb3⟩
      have HBE3 := Lib.hid (below_next HBE.out hb3)
      clear f0 f1 HC hb3
      cases hpv : pEx1 (Ev.at E k)
      · rw [hpv] at HST
        have HS2 := Lib.hid (show cntP E pEx1 (k + 1) = N by rw [HST.out]; rfl)
        clear hpv HST
        go_wp2_with fail
        go_roundw
        case rel => exact ⟨k + 1, by omega, by go_num, by rw [HS2.out], HBE3.out⟩
        case measure => simp [intOf]; omega
      · rw [hpv] at HST
        have HS2 := Lib.hid (show cntP E pEx1 (k + 1) = N + 1 by rw [HST.out]; rfl)
        clear hpv HST
        go_wp2_with fail
        go_roundw
        case rel => exact ⟨k + 1, by omega, by go_num, by rw [HS2.out]; go_num, HBE3.out⟩
        case measure => simp [intOf]; omega
    · have hdk : decide ((k : Int) < (E.length : Int)) = false := by simp; omega
      have hke : k = E.length := by omega
      rw [hke]
      rw [hke] at hcl
      obtain ⟨N, hN⟩ : ∃ N, N = cntP E pEx1 E.length := ⟨_, rfl⟩
      rw [← hN] at hcl ⊢
      have HN := Lib.hid hN
      clear hN
      have hN9 : (N : Int) < 1000 := by omega
      clear hke hbe
      go_wp2_with fail
      go_ret
      exact ⟨by rw [← HN.out]; rfl, HBw.out⟩
end Go.Proofs.YtgpkdhbegkhjjaaDoor
namespace Go.Proofs.YtgpkdhbegkhjjaaDoor
open Go.RowKit RelA
namespace RelA
theorem cntP_wr (E : List Ev) (t : Int) (k : Nat) : cntP E (pWr1 t) k = cntW E t k := by
  induction k with
  | zero => rfl
  | succ k ih =>
    unfold cntP cntW
    rw [ih]
    congr 1
    unfold pWr1
    by_cases h1 : (Ev.at E k).kd = 2
    · by_cases h2 : (Ev.at E k).lc = t
      · simp [h1, h2]
      · simp [h1, h2]
    · simp [h1]
def sumTo (f : Nat → Int) : Nat → Int
  | 0 => 0
  | k + 1 => sumTo f k + f k
theorem sumTo_add (f g : Nat → Int) (n : Nat) : sumTo (fun i => f i + g i) n = sumTo f n + sumTo g n := by
  induction n with
  | zero => rfl
  | succ n ih => unfold sumTo; rw [ih]; omega
theorem sumTo_one (m n : Nat) : sumTo (fun i => if (m : Int) = (i : Int) then 1 else 0) n = if m < n then 1 else 0 := by
  induction n with
  | zero => rfl
  | succ n ih =>
    unfold sumTo
    rw [ih]
    by_cases h : m = n
    · subst h
      rw [if_neg (by omega), if_pos rfl, if_pos (by omega)]
      rfl
    · rw [if_neg (show ¬ (m : Int) = (n : Int) by omega)]
      by_cases h2 : m < n
      · rw [if_pos h2, if_pos (by omega)]; rfl
      · rw [if_neg h2, if_neg (by omega)]; rfl
theorem sum_le (f g : Nat → Int) (n : Nat) (h : ∀ i, i < n → f i ≤ g i) : sumTo f n ≤ sumTo g n := by
  induction n with
  | zero => exact Int.le_refl _
  | succ n ih =>
    unfold sumTo
    have := ih (fun i hi => h i (by omega))
    have := h n (by omega)
    omega
theorem sum_all (f g : Nat → Int) (n : Nat) (h : ∀ i, i < n → f i ≤ g i) (e : sumTo f n = sumTo g n) : ∀ i, i < n → f i = g i := by
  induction n with
  | zero => intro i hi; omega
  | succ n ih =>
    unfold sumTo at e
    have h1 := sum_le f g n (fun i hi => h i (by omega))
    have h2 := h n (by omega)
    intro i hi
    by_cases c : i = n
    · subst c; omega
    · exact ih (fun i hi => h i (by omega)) (by omega) i (by omega)
theorem sum_congr (f g : Nat → Int) (n : Nat) (h : ∀ i, i < n → f i = g i) : sumTo f n = sumTo g n := by
  induction n with
  | zero => rfl
  | succ n ih =>
    unfold sumTo
    rw [ih (fun i hi => h i (by omega)), h n (by omega)]
theorem cntP_sum (E : List Ev) (n : Nat) : ((cntP E pEx1 n : Nat) : Int) = sumTo (fun i => if (Ev.at E i).ex = true then 1 else 0) n := by
  induction n with
  | zero => rfl
  | succ n ih =>
    unfold cntP sumTo
    rw [← ih]
    unfold pEx1
    split <;> omega
theorem up_lt {E : List Ev} {L : List (Int × Int)} (h : ∀ k, k < L.length → RmwOk E (L.getD k (0, 0))) (r : RisingL L) (k : Nat) : k < L.length → ∀ j, j < k → (L.getD j (0, 0)).1 < (L.getD k (0, 0)).1 := by
  induction k with
  | zero => intro _ j hj; omega
  | succ k ih =>
    intro hk j hj
    have hs : (L.getD k (0, 0)).1 < (L.getD (k + 1) (0, 0)).1 := by
      have hx := r (k + 1) (by omega) hk
      rw [Nat.add_sub_cancel] at hx
      obtain ⟨m, n, e, hn, _⟩ := h k (by omega)
      obtain ⟨m2, n2, e2, hn2, _⟩ := h (k + 1) hk
      rw [e, e2] at hx ⊢
      unfold lexB at hx
      dsimp only at hx ⊢
      omega
    by_cases c : j = k
    · subst c; exact hs
    · exact Int.lt_trans (ih (by omega) j (by omega)) hs
theorem cntR_one {E : List Ev} {L : List (Int × Int)} (h : ∀ k, k < L.length → RmwOk E (L.getD k (0, 0))) (r : RisingL L) (i k : Nat) : k ≤ L.length →
    (cntR L k i = 0 ∧ ∀ j, j < k → (L.getD j (0, 0)).1 ≠ i ∧ (L.getD j (0, 0)).2 ≠ i) ∨ (cntR L k i = 1 ∧ ∃ j, j < k ∧ ((L.getD j (0, 0)).1 = i ∨ (L.getD j (0, 0)).2 = i)) := by
  induction k with
  | zero => intro _; exact .inl ⟨rfl, fun j hj => by omega⟩
  | succ k ih =>
    intro hk
    obtain ⟨m, n, e, hn, hnl, _, k1, k2, _⟩ := h k (by omega)
    have hc : cntR L (k + 1) i = cntR L k i + (if (L.getD k (0, 0)).1 = i then 1 else 0) + (if (L.getD k (0, 0)).2 = i then 1 else 0) := rfl
    rcases ih (by omega) with ⟨c0, hno⟩ | ⟨c1, j, hj, hji⟩
    · by_cases a : m = i
      · right
        rw [hc, c0, e, if_pos (by show (m : Int) = i; omega), if_neg (by show ¬ (n : Int) = i; omega)]
        exact ⟨rfl, k, by omega, .inl (by rw [e]; show (m : Int) = i; omega)⟩
      · by_cases b : n = i
        · right
          rw [hc, c0, e, if_neg (by show ¬ (m : Int) = i; omega), if_pos (by show (n : Int) = i; omega)]
          exact ⟨rfl, k, by omega, .inr (by rw [e]; show (n : Int) = i; omega)⟩
        · left
          rw [hc, c0, e, if_neg (by show ¬ (m : Int) = i; omega), if_neg (by show ¬ (n : Int) = i; omega)]
          refine ⟨rfl, fun j hj => ?_⟩
          by_cases c : j = k
          · subst c; rw [e]; exact ⟨by show ¬ (m : Int) = i; omega, by show ¬ (n : Int) = i; omega⟩
          · exact hno j (by omega)
    · have hlt := up_lt h r k (by omega) j hj
      obtain ⟨m2, n2, e2, hn2, hnl2, _, q1, q2, _⟩ := h j (by omega)
      rw [e, e2] at hlt
      have hlt2 : (m2 : Int) < (m : Int) := hlt
      rw [e2] at hji
      have hji2 : (m2 : Int) = i ∨ (n2 : Int) = i := hji
      have hm : ¬ m = i := by
        intro a
        rcases hji2 with x | x
        · omega
        · obtain rfl : m = n2 := by omega
          rw [k1] at q2; omega
      have hn3 : ¬ n = i := by
        intro a
        rcases hji2 with x | x
        · obtain rfl : n = m2 := by omega
          omega
        · omega
      right
      rw [hc, c1, e, if_neg (by show ¬ (m : Int) = i; omega), if_neg (by show ¬ (n : Int) = i; omega)]
      exact ⟨rfl, j, by omega, by rw [e2]; exact hji2⟩
theorem cntR_sum {E : List Ev} {L : List (Int × Int)} (h : ∀ k, k < L.length → RmwOk E (L.getD k (0, 0))) (k : Nat) : k ≤ L.length → sumTo (cntR L k) E.length = 2 * (k : Int) := by
  induction k with
  | zero =>
    intro _
    have : sumTo (cntR L 0) E.length = sumTo (fun _ => 0) E.length := rfl
    rw [this]
    have hz : ∀ n, sumTo (fun _ => 0) n = 0 := fun n => by
      induction n with
      | zero => rfl
      | succ n ih => unfold sumTo; rw [ih]; rfl
    rw [hz]
    rfl
  | succ k ih =>
    intro hk
    obtain ⟨m, n, e, hn, hnl, _⟩ := h k (by omega)
    have hc : sumTo (cntR L (k + 1)) E.length = sumTo (fun i => (cntR L k i + (if ((m : Nat) : Int) = (i : Int) then 1 else 0)) + (if ((n : Nat) : Int) = (i : Int) then 1 else 0)) E.length := by
      apply sum_congr
      intro i _
      show cntR L k i + (if (L.getD k (0, 0)).1 = i then 1 else 0) + (if (L.getD k (0, 0)).2 = i then 1 else 0) = _
      rw [e]
    rw [hc, sumTo_add, sumTo_add, ih (by omega), sumTo_one, sumTo_one, if_pos (by omega), if_pos hnl]
    omega
/-- the program's way to see that the marked events are those of the pairs -/
theorem rmws_iff {E : List Ev} {L : List (Int × Int)} (h : ∀ k, k < L.length → RmwOk E (L.getD k (0, 0))) (r : RisingL L) :
    RmwsOk E L ↔ cntP E pEx1 E.length = 2 * L.length := by
  have hs := cntR_sum h L.length (Nat.le_refl _)
  have hp := cntP_sum E E.length
  constructor
  · intro hx
    have : sumTo (cntR L L.length) E.length = sumTo (fun i => if (Ev.at E i).ex = true then 1 else 0) E.length := by
      apply sum_congr
      intro i hi
      obtain ⟨a, b⟩ := hx.ex i hi
      rcases cntR_one h r i L.length (Nat.le_refl _) with ⟨c, _⟩ | ⟨c, _⟩ <;> rw [c] at b ⊢ <;> rw [b] <;> rfl
    omega
  · intro hx
    refine ⟨h, ?_, r⟩
    have hle : ∀ i, i < E.length → cntR L L.length i ≤ (fun i => if (Ev.at E i).ex = true then (1 : Int) else 0) i := by
      intro i hi
      rcases cntR_one h r i L.length (Nat.le_refl _) with ⟨c, _⟩ | ⟨c, j, hj, hji⟩
      · rw [c]; dsimp only; split <;> omega
      · obtain ⟨m2, n2, e2, _, _, _, _, _, _, x1, x2⟩ := h j hj
        rw [e2] at hji
        have hji2 : (m2 : Int) = i ∨ (n2 : Int) = i := hji
        rw [c]
        dsimp only
        rcases hji2 with x | x
        · obtain rfl : m2 = i := by omega
          rw [if_pos x1]; exact Int.le_refl _
        · obtain rfl : n2 = i := by omega
          rw [if_pos x2]; exact Int.le_refl _
    have ha := sum_all _ _ E.length hle (by omega)
    intro i hi
    have hi2 := ha i hi
    rw [hi2]
    by_cases c : (Ev.at E i).ex = true
    · rw [if_pos c, c]; exact ⟨by omega, rfl⟩
    · rw [if_neg c]
      exact ⟨by omega, by simpa using c⟩
end RelA
end Go.Proofs.YtgpkdhbegkhjjaaDoor
namespace Go.Proofs.YtgpkdhbegkhjjaaDoor
open Go.RowKit RelA
attribute [local go_sem ↓] Go.wp_at_zero Go.wp_at_succ
namespace RelA
def cmpI (a b : Int) : Int := if a < b then -1 else if b < a then 1 else 0
def orI (x y : Int) : Int := if x = 0 then y else x
end RelA
set_option maxRecDepth 20000 in
set_option maxHeartbeats 3200000 in
theorem isnan_any (a : Int) (w : World) : Calls Tryd.prog 38 #[.int .i64 a] w fun e w' => e = .returned (.bool false) ∧ w = w' := by
  have l : (a != a) = false := by simp
  go_enter Tryd.func38, Tryd.ntmps38
  go_wp2_with fail
  go_ret
  exact ⟨rfl, rfl⟩
set_option maxRecDepth 20000 in
set_option maxHeartbeats 3200000 in
theorem cmp_any (a b : Int) (w : World) : Calls Tryd.prog 37 #[.int .i64 a, .int .i64 b] w fun e w' => e = .returned (.int .i64 (cmpI a b)) ∧ w = w' := by
  have HA := Lib.hid (isnan_any a)
  have HB := Lib.hid (isnan_any b)
  unfold cmpI
  by_cases h1 : a < b
  · have l1 : decide (a < b) = true := by simp [h1]
    rw [if_pos h1]
    clear h1
    go_enter Tryd.func37, Tryd.ntmps37
    go_wp2_with fail
    refine (HA.out _).mono ?_
    rintro e w' ⟨rfl, rfl⟩
    go_wp2_with fail
    refine (HB.out _).mono ?_
    rintro e w' ⟨rfl, rfl⟩
    go_wp2_with fail
    go_ret
    exact ⟨rfl, rfl⟩
  · have l1 : decide (a < b) = false := by simp [h1]
    rw [if_neg h1]
    by_cases h2 : b < a
    · have l2 : decide (b < a) = true := by simp [h2]
      rw [if_pos h2]
      clear h1 h2
      go_enter Tryd.func37, Tryd.ntmps37
      go_wp2_with fail
      refine (HA.out _).mono ?_
      rintro e w' ⟨rfl, rfl⟩
      go_wp2_with fail
      refine (HB.out _).mono ?_
      rintro e w' ⟨rfl, rfl⟩
      go_wp2_with fail
      go_ret
      exact ⟨rfl, rfl⟩
    · have l2 : decide (b < a) = false := by simp [h2]
      rw [if_neg h2]
      clear h1 h2
      go_enter Tryd.func37, Tryd.ntmps37
      go_wp2_with fail
      refine (HA.out _).mono ?_
      rintro e w' ⟨rfl, rfl⟩
      go_wp2_with fail
      refine (HB.out _).mono ?_
      rintro e w' ⟨rfl, rfl⟩
      go_wp2_with fail
      go_ret
      exact ⟨rfl, rfl⟩
set_option maxRecDepth 20000 in
set_option maxHeartbeats 3200000 in
theorem cor_any (x y : Int) (b : Nat) (w : World) (h0 : w.cell? ⟨b, 0, none⟩ = some (.int .i64 x)) (h1 : w.cell? ⟨b, 1, none⟩ = some (.int .i64 y)) :
    Calls Tryd.prog 36 #[.slice (some ⟨b, 0, none⟩) 2 2] w fun e w' => e = .returned (.int .i64 (orI x y)) ∧ w = w' := by
  unfold orI
  go_enter Tryd.func36, Tryd.ntmps36
  by_cases e1 : x = 0
  · subst e1
    rw [if_pos rfl]
    by_cases e2 : y = 0
    · subst e2
      go_wp2_with fail
      go_loopw [8] (fun v wr => w = wr ∧ ∃ k : Nat, k ≤ 2 ∧ v = .int .i64 k) (fun v _ => 2 - (intOf v).toNat)
      case atStart => exact ⟨rfl, 0, by omega, rfl⟩
      case round =>
        obtain ⟨rfl, k, hk, rfl⟩ := hrel
        have hc : k = 0 ∨ k = 1 ∨ k = 2 := by omega
        rcases hc with rfl | rfl | rfl
        · go_wp2_with fail
          go_roundw
          case rel => exact ⟨trivial, 1, by omega, rfl⟩
          case measure => simp [intOf]
        · go_wp2_with fail
          go_roundw
          case rel => exact ⟨trivial, 2, by omega, rfl⟩
          case measure => simp [intOf]
        · go_wp2_with fail
          go_ret
          exact ⟨rfl, rfl⟩
    · have l2 : (y != 0) = true := by simp [e2]
      go_wp2_with fail
      go_loopw [8] (fun v wr => w = wr ∧ ∃ k : Nat, k ≤ 1 ∧ v = .int .i64 k) (fun v _ => 2 - (intOf v).toNat)
      case atStart => exact ⟨rfl, 0, by omega, rfl⟩
      case round =>
        obtain ⟨rfl, k, hk, rfl⟩ := hrel
        have hc : k = 0 ∨ k = 1 := by omega
        rcases hc with rfl | rfl
        · go_wp2_with fail
          go_roundw
          case rel => exact ⟨trivial, 1, by omega, rfl⟩
          case measure => simp [intOf]
        · go_wp2_with fail
          go_ret
          exact ⟨rfl, rfl⟩
  · have l1 : (x != 0) = true := by simp [e1]
    rw [if_neg e1]
    go_wp2_with fail
    go_loopw [8] (fun v wr => w = wr ∧ v = .int .i64 0) (fun v _ => 2 - (intOf v).toNat)
    case atStart => exact ⟨rfl, rfl⟩
    case round =>
      obtain ⟨rfl, rfl⟩ := hrel
      go_wp2_with fail
      go_ret
      exact ⟨rfl, rfl⟩
end Go.Proofs.YtgpkdhbegkhjjaaDoor
namespace Go.Proofs.YtgpkdhbegkhjjaaDoor
open Go.RowKit RelA
attribute [local go_sem ↓] Go.wp_at_zero Go.wp_at_succ
namespace RelA
def cmpP (p q : Int × Int) : Int := orI (cmpI p.1 q.1) (cmpI p.2 q.2)
theorem cmpP_lex (p q : Int × Int) : ¬ 0 ≤ cmpP p q ↔ lexB p q := by
  unfold cmpP orI cmpI lexB
  by_cases h1 : p.1 < q.1
  · simp [h1]
  · by_cases h2 : q.1 < p.1
    · simp [h1, h2]; omega
    · have h3 : p.1 = q.1 := by omega
      by_cases h4 : p.2 < q.2
      · simp [h3, h4]
      · by_cases h5 : q.2 < p.2
        · simp [h3, h4, h5]
        · simp [h3, h4, h5]
theorem cmpI_le (a b : Int) : -1 ≤ cmpI a b ∧ cmpI a b ≤ 1 := by unfold cmpI; split <;> (try split) <;> omega
theorem cmpP_le (p q : Int × Int) : -1 ≤ cmpP p q ∧ cmpP p q ≤ 1 := by unfold cmpP orI; split <;> exact cmpI_le _ _
theorem ints2 {w : World} {x y : Int} {t : TypeId} : (w.alloc (.cells #[.int .i64 x, .int .i64 y] t (0, 0))).cell? ⟨w.heap.size, 0, none⟩ = some (.int .i64 x) ∧ (w.alloc (.cells #[.int .i64 x, .int .i64 y] t (0, 0))).cell? ⟨w.heap.size, 1, none⟩ = some (.int .i64 y) := by
  constructor <;> (rw [cell_of_row _ _ _ _ _ _ (heap_alloc_new _ _)]; rfl)
end RelA
theorem cmp_b (a b : Int) (w : World) : Calls Tryd.prog 37 #[.int .i64 a, .int .i64 b] w fun e w' => e = .returned (.int .i64 (cmpI a b)) ∧ Below w.heap.size w w' := (cmp_any a b w).mono fun _ _ h => ⟨h.1, h.2 ▸ Below.refl _ _⟩
theorem cor_b (x y : Int) (b : Nat) (w : World) (h0 : w.cell? ⟨b, 0, none⟩ = some (.int .i64 x)) (h1 : w.cell? ⟨b, 1, none⟩ = some (.int .i64 y)) : Calls Tryd.prog 36 #[.slice (some ⟨b, 0, none⟩) 2 2] w fun e w' => e = .returned (.int .i64 (orI x y)) ∧ Below w.heap.size w w' := (cor_any x y b w h0 h1).mono fun _ _ h => ⟨h.1, h.2 ▸ Below.refl _ _⟩
set_option maxRecDepth 20000 in
set_option maxHeartbeats 3200000 in
theorem pcmp_any (p q : Int × Int) (w : World) : Calls Tryd.prog 34 #[.agg #[.int .i64 p.1, .int .i64 p.2], .agg #[.int .i64 q.1, .int .i64 q.2]] w fun e w' => e = .returned (.int .i64 (cmpP p q)) ∧ Below w.heap.size w w' := by
  obtain ⟨a, b⟩ := p
  obtain ⟨c, d⟩ := q
  unfold cmpP
  dsimp only
  have H1 := Lib.hid (cmp_b a c)
  have H2 := Lib.hid (cmp_b b d)
  generalize cmpI a c = x at *
  generalize cmpI b d = y at *
  have HW : Hid (∀ o o', Below w.heap.size w ((w.alloc o).alloc o')) := Lib.hid (fun o o' => below_next ((Below.refl _ _).alloc (Nat.le_refl _) o) ((Below.refl _ _).alloc (Nat.le_refl _) o'))
  go_enter Tryd.func34, Tryd.ntmps34
  go_wp2_with fail
  have c0 := two_first w 40 #[.int .i64 a, .int .i64 b] #[.int .i64 c, .int .i64 d] 0
  have c1 := two_first w 40 #[.int .i64 a, .int .i64 b] #[.int .i64 c, .int .i64 d] 1
  have c2 := two_second w 40 #[.int .i64 a, .int .i64 b] #[.int .i64 c, .int .i64 d] 0
  have c3 := two_second w 40 #[.int .i64 a, .int .i64 b] #[.int .i64 c, .int .i64 d] 1
  simp only [List.getElem?_toArray, List.getElem?_cons_succ, List.getElem?_cons_zero] at c0 c1 c2 c3
  have hBl : Bl w _ := ⟨HW.out (Obj.cells #[.int .i64 a, .int .i64 b] 40 (0, 0)) (Obj.cells #[.int .i64 c, .int .i64 d] 40 (0, 0))⟩
  clear HW
  generalize (w.alloc (Obj.cells #[.int .i64 a, .int .i64 b] 40 (0, 0))).alloc (Obj.cells #[.int .i64 c, .int .i64 d] 40 (0, 0)) = w1 at *
  go_region_held3 (fun W => W.cell? ⟨w.heap.size, 0, none⟩ = some (.int .i64 a) ∧ W.cell? ⟨w.heap.size, 1, none⟩ = some (.int .i64 b) ∧ W.cell? ⟨w.heap.size + 1, 0, none⟩ = some (.int .i64 c) ∧ W.cell? ⟨w.heap.size + 1, 1, none⟩ = some (.int .i64 d) ∧ Bl w W)
    (first | (go_split_ands; exact ⟨cell_next ‹_› hbe, cell_next ‹_› hbe, cell_next ‹_› hbe, cell_next ‹_› hbe, ⟨below_next (Bl.out ‹_›) hbe⟩⟩) | (go_split_ands; exact ⟨cell_next ‹_› (Below.refl _ _).drew, cell_next ‹_› (Below.refl _ _).drew, cell_next ‹_› (Below.refl _ _).drew, cell_next ‹_› (Below.refl _ _).drew, ⟨(Bl.out ‹_›).drew⟩⟩) | (go_split_ands; exact ⟨cell_next ‹_› ((Below.refl _ _).alloc (Nat.le_refl _) _), cell_next ‹_› ((Below.refl _ _).alloc (Nat.le_refl _) _), cell_next ‹_› ((Below.refl _ _).alloc (Nat.le_refl _) _), cell_next ‹_› ((Below.refl _ _).alloc (Nat.le_refl _) _), ⟨below_next (Bl.out ‹_›) ((Below.refl _ _).alloc (Nat.le_refl _) _)⟩⟩) | fail "keep")
    (first | (go_at_call 36; have hgd := HA2; clear hgd; refine (cor_b x y _ _ ints2.1 ints2.2).mono ?_; rintro en wn ⟨rfl, hbe⟩) | (go_at_call 37; have hgd := HA1; clear hgd; refine (H2.out _).mono ?_; rintro en wn ⟨rfl, hbe⟩; have HA2 := Lib.hid True.intro) | (go_at_call 37; refine (H1.out _).mono ?_; rintro en wn ⟨rfl, hbe⟩; have HA1 := Lib.hid True.intro))
  go_split_ands
  have HB := Lib.hid (Bl.out ‹Bl w _›)
  go_wp2_with fail
  go_ret
  exact ⟨rfl, HB.out⟩
end Go.Proofs.YtgpkdhbegkhjjaaDoor
namespace Go.Proofs.YtgpkdhbegkhjjaaDoor
open Go.RowKit RelA
attribute [local go_sem ↓] Go.wp_at_zero Go.wp_at_succ
namespace RelA
/-- a check that is exact -/
def Exact (K : Prop) (w : World) (e : Ending) (w' : World) : Prop := ∃ x, e = .returned (.bool x) ∧ (x = true ↔ K) ∧ Below w.heap.size w w'
theorem Exact.no {K : Prop} {w w' : World} (h : Below w.heap.size w w') (k : ¬ K) : Exact K w (.returned (.bool false)) w' := ⟨false, rfl, ⟨fun hx => (by cases hx), fun x => absurd x k⟩, h⟩
theorem Exact.yes {K : Prop} {w w' : World} (h : Below w.heap.size w w') (k : K) : Exact K w (.returned (.bool true)) w' := ⟨true, rfl, ⟨fun _ => k, fun _ => rfl⟩, h⟩
end RelA
set_option maxRecDepth 20000 in
set_option maxHeartbeats 3200000 in
theorem rising_p (a : Option Addr) (L : List (Int × Int)) (c : Nat) (w : World) (h : PIn w a L c) (hl : L.length ≤ 400) :
    Calls Tryd.prog 27 #[.slice a L.length c] w (Exact (RisingL L) w) := by
  have HI := Lib.hid h
  clear h
  go_enter Tryd.func27, Tryd.ntmps27
  go_wp2_with fail
  go_loopw [3] (fun v wr => Below w.heap.size w wr ∧ ∃ k : Nat, 1 ≤ k ∧ k ≤ L.length + 1 ∧ v = .int .i64 k ∧ Hid (∀ j, 1 ≤ j → j < k → j < L.length → lexB (L.getD (j - 1) (0, 0)) (L.getD j (0, 0)))) (fun v _ => L.length + 1 - (intOf v).toNat)
  case atStart => exact ⟨Below.refl _ _, 1, by omega, by omega, rfl, Lib.hid (fun j _ _ _ => by omega)⟩
  case round =>
    obtain ⟨hbe, k, hk1, hk, rfl, HR⟩ := hrel
    by_cases hlt : k < L.length
    · have hdk : decide ((k : Int) < (L.length : Int)) = true := by simp; omega
      have hki : (k : Int) < (L.length : Int) := by omega
      have hk9 : (k : Int) < 1000 := by omega
      obtain ⟨m, rfl⟩ : ∃ m, k = m + 1 := ⟨k - 1, by omega⟩
      have hm1 : (m : Int) < (L.length : Int) := by omega
      have hm2 : (0 : Int) ≤ (m : Int) := by omega
      have hm3 : (m : Int) < 1000 := by omega
      have hm4 : (m : Int) + 1 < (L.length : Int) := by omega
      have hm5 : (0 : Int) ≤ (m : Int) + 1 := by omega
      have hw1 : IntKind.i64.wrap (m : Int) = (m : Int) := IntWalk.i64_in _ (by omega)
      have HS : Hid (lexB (L.getD m (0, 0)) (L.getD (m + 1) (0, 0)) → ∀ j, 1 ≤ j → j < m + 1 + 1 → j < L.length → lexB (L.getD (j - 1) (0, 0)) (L.getD j (0, 0))) := Lib.hid (fun hx j a b c => by
        rcases Nat.lt_succ_iff_lt_or_eq.1 b with e | rfl
        · exact HR.out j a e c
        · exact hx)
      have HN : Hid (¬ lexB (L.getD m (0, 0)) (L.getD (m + 1) (0, 0)) → ¬ RisingL L) := Lib.hid (fun hx hP => hx (hP (m + 1) hk1 hlt))
      rcases HI.out.next hbe with ⟨_, h0, _⟩ | ⟨_, _, h0⟩ | ⟨b, o, rfl, hbl, hcc⟩
      · rw [h0] at hlt; simp at hlt
      · rw [h0] at hlt; simp at hlt
      · obtain ⟨d0, d1⟩ := hcc (m + 1) hlt
        obtain ⟨q0, q1⟩ := hcc m (by omega)
        have HBE := Lib.hid hbe
        have hBl : Bl w wr := ⟨hbe⟩
        clear hcc HR hbe hbl
        generalize L.getD (m + 1) (0, 0) = p at *
        generalize L.getD m (0, 0) = q at *
        obtain ⟨p0, p1⟩ := p
        obtain ⟨r0, r1⟩ := q
        have HC := Lib.hid (pcmp_any (r0, r1) (p0, p1))
        have HL := Lib.hid (cmpP_lex (r0, r1) (p0, p1))
        dsimp only at d0 d1 q0 q1 HC
        generalize cmpP (r0, r1) (p0, p1) = c at *
        by_cases e1 : 0 ≤ c
        · have l1 : decide (0 ≤ c) = true := by simp [e1]
          have HNO := Lib.hid (HN.out (fun x => HL.out.2 x e1))
          go_wp2_with fail
          go_region_held3 (fun W => W.cell? ⟨b, o + (m + 1) * 2, none⟩ = some (.int .i64 p0) ∧ W.cell? ⟨b, o + (m + 1) * 2 + 1, none⟩ = some (.int .i64 p1) ∧ W.cell? ⟨b, o + m * 2, none⟩ = some (.int .i64 r0) ∧ W.cell? ⟨b, o + m * 2 + 1, none⟩ = some (.int .i64 r1) ∧ Bl w W)
            (first | (go_split_ands; exact ⟨cell_next ‹_› hbe, cell_next ‹_› hbe, cell_next ‹_› hbe, cell_next ‹_› hbe, ⟨below_next (Bl.out ‹_›) hbe⟩⟩) | (go_split_ands; exact ⟨cell_next ‹_› (Below.refl _ _).drew, cell_next ‹_› (Below.refl _ _).drew, cell_next ‹_› (Below.refl _ _).drew, cell_next ‹_› (Below.refl _ _).drew, ⟨(Bl.out ‹_›).drew⟩⟩) | (go_split_ands; exact ⟨cell_next ‹_› ((Below.refl _ _).alloc (Nat.le_refl _) _), cell_next ‹_› ((Below.refl _ _).alloc (Nat.le_refl _) _), cell_next ‹_› ((Below.refl _ _).alloc (Nat.le_refl _) _), cell_next ‹_› ((Below.refl _ _).alloc (Nat.le_refl _) _), ⟨below_next (Bl.out ‹_›) ((Below.refl _ _).alloc (Nat.le_refl _) _)⟩⟩) | fail "keep")
            (first | (go_at_call 34; refine (HC.out _).mono ?_; rintro en wn ⟨rfl, hbe⟩))
          go_split_ands
          have HB := Lib.hid (Bl.out ‹Bl w _›)
          go_wp2_with fail
          go_ret
          exact Exact.no HB.out HNO.out
        · have l1 : decide (0 ≤ c) = false := by simp [e1]
          have HSS := Lib.hid (HS.out (HL.out.1 e1))
          go_wp2_with fail
          go_region_held3 (fun W => W.cell? ⟨b, o + (m + 1) * 2, none⟩ = some (.int .i64 p0) ∧ W.cell? ⟨b, o + (m + 1) * 2 + 1, none⟩ = some (.int .i64 p1) ∧ W.cell? ⟨b, o + m * 2, none⟩ = some (.int .i64 r0) ∧ W.cell? ⟨b, o + m * 2 + 1, none⟩ = some (.int .i64 r1) ∧ Bl w W)
            (first | (go_split_ands; exact ⟨cell_next ‹_› hbe, cell_next ‹_› hbe, cell_next ‹_› hbe, cell_next ‹_› hbe, ⟨below_next (Bl.out ‹_›) hbe⟩⟩) | (go_split_ands; exact ⟨cell_next ‹_› (Below.refl _ _).drew, cell_next ‹_› (Below.refl _ _).drew, cell_next ‹_› (Below.refl _ _).drew, cell_next ‹_› (Below.refl _ _).drew, ⟨(Bl.out ‹_›).drew⟩⟩) | (go_split_ands; exact ⟨cell_next ‹_› ((Below.refl _ _).alloc (Nat.le_refl _) _), cell_next ‹_› ((Below.refl _ _).alloc (Nat.le_refl _) _), cell_next ‹_› ((Below.refl _ _).alloc (Nat.le_refl _) _), cell_next ‹_› ((Below.refl _ _).alloc (Nat.le_refl _) _), ⟨below_next (Bl.out ‹_›) ((Below.refl _ _).alloc (Nat.le_refl _) _)⟩⟩) | fail "keep")
            (first | (go_at_call 34; refine (HC.out _).mono ?_; rintro en wn ⟨rfl, hbe⟩))
          go_split_ands
          have HB := Lib.hid (Bl.out ‹Bl w _›)
          go_wp2_with fail
          go_roundw
          case rel => exact ⟨HB.out, m + 1 + 1, by omega, by omega, by go_num, HSS⟩
          case measure => simp [intOf]; omega
    · have hdk : decide ((k : Int) < (L.length : Int)) = false := by simp; omega
      have HL : Hid (RisingL L) := Lib.hid (fun j a b => HR.out j a (by omega) b)
      have HB := Lib.hid hbe
      go_wp2_with fail
      go_ret
      exact Exact.yes HB.out HL.out
end Go.Proofs.YtgpkdhbegkhjjaaDoor
namespace Go.Proofs.YtgpkdhbegkhjjaaDoor
open Go.RowKit RelA
attribute [local go_sem ↓] Go.wp_at_zero Go.wp_at_succ
theorem wpq_skip {P : Program} {ops : Array Oper} {C : World → Prop} {Q : Act → Prop} {a : Act} {o : Oper} {rest : List Oper} (hw : Region.wanted o (yielded ops a.tmps) = false) (h : wpQuiet P ops C Q rest (a.put o.dst undef)) : wpQuiet P ops C Q (o :: rest) a := by
  show (if Region.wanted o (yielded ops a.tmps) = true then _ else _)
  rw [hw, if_neg Bool.false_ne_true]
  exact h
theorem wpq_do {P : Program} {ops : Array Oper} {C : World → Prop} {Q : Act → Prop} {a : Act} {o : Oper} {rest : List Oper} (hw : Region.wanted o (yielded ops a.tmps) = true) (h : ∃ v, (∀ w, C w → o.quietAt P a C w v) ∧ wpQuiet P ops C Q rest (a.put o.dst v)) : wpQuiet P ops C Q (o :: rest) a := by
  show (if Region.wanted o (yielded ops a.tmps) = true then _ else _)
  rw [hw, if_pos rfl]
  exact h
set_option maxRecDepth 20000 in
set_option maxHeartbeats 8000000 in
theorem reads_p (g : Gr) (w : World) : Calls Tryd.prog 28 #[g.v] w fun e w' => e = .returned (.agg #[.slice g.ea g.E.length g.ec, .func (.func 35) #[] #[]]) ∧ Below w.heap.size w w' := by
  have HG0 := Lib.hid (GBox.of_alloc w g 28)
  obtain ⟨G, hG⟩ : ∃ G, G = g := ⟨_, rfl⟩
  obtain ⟨locs, ea, E, ec, ra, R, rc, ca, C, cc, ma, Rmw, mc, da, Data, dc, ta, Ctrl, tc, ia, CtrlI, ic⟩ := g
  simp only [Gr.v, gcells] at HG0 ⊢
  rw [← hG] at HG0
  have HB : Hid (∀ o o', Below w.heap.size w ((w.alloc o).alloc o')) := Lib.hid (fun o o' => below_next ((Below.refl _ _).alloc (Nat.le_refl _) o) ((Below.refl _ _).alloc (Nat.le_refl _) o'))
  have c1 := HG0.out.c1
  rw [hG] at c1
  dsimp only at c1
  have c1z := fun o => cell_next c1 ((Below.refl _ _).alloc (Nat.le_refl _) o)
  clear c1
  go_enter Tryd.func28, Tryd.ntmps28
  go_wp2_with fail
  go_returns
  exact ⟨rfl, HB.out _ _⟩
set_option maxRecDepth 20000 in
set_option maxHeartbeats 8000000 in
theorem writes_p (g : Gr) (loc : Int) (w : World) : Calls Tryd.prog 24 #[g.v, .int .i64 loc] w fun e w' => ∃ lb, e = .returned (.agg #[.slice g.ea g.E.length g.ec, .func (.func 33) #[] #[.pointer (some ⟨lb, 0, none⟩)]]) ∧ w'.cell? ⟨lb, 0, none⟩ = some (.int .i64 loc) ∧ Below w.heap.size w w' := by
  have HG0 := Lib.hid (GBox.of_alloc w g 28)
  obtain ⟨G, hG⟩ : ∃ G, G = g := ⟨_, rfl⟩
  obtain ⟨locs, ea, E, ec, ra, R, rc, ca, C, cc, ma, Rmw, mc, da, Data, dc, ta, Ctrl, tc, ia, CtrlI, ic⟩ := g
  simp only [Gr.v, gcells] at HG0 ⊢
  rw [← hG] at HG0
  have HB : Hid (∀ o o' o'', Below w.heap.size w (((w.alloc o).alloc o').alloc o'')) := Lib.hid (fun o o' o'' => below_next (below_next ((Below.refl _ _).alloc (Nat.le_refl _) o) ((Below.refl _ _).alloc (Nat.le_refl _) o')) ((Below.refl _ _).alloc (Nat.le_refl _) o''))
  have HC : Hid (∀ o t o'', (((w.alloc o).alloc (.cells #[.int .i64 loc] t (0, 0))).alloc o'').cell? ⟨w.heap.size + 1, 0, none⟩ = some (.int .i64 loc)) := Lib.hid (fun o t o'' => by
    have h1 : ((w.alloc o).alloc (.cells #[.int .i64 loc] t (0, 0))).cell? ⟨(w.alloc o).heap.size, 0, none⟩ = some (.int .i64 loc) := by rw [cell_of_row _ _ _ _ _ _ (heap_alloc_new _ _)]; rfl
    have h2 := cell_next h1 ((Below.refl _ _).alloc (Nat.le_refl _) o'')
    simpa using h2)
  have c1 := HG0.out.c1
  rw [hG] at c1
  dsimp only at c1
  have c1z := fun o => cell_next c1 ((Below.refl _ _).alloc (Nat.le_refl _) o)
  have c1zz := fun o o' => cell_next c1 (below_next ((Below.refl _ _).alloc (Nat.le_refl _) o) ((Below.refl _ _).alloc (Nat.le_refl _) o'))
  clear c1
  go_enter Tryd.func24, Tryd.ntmps24
  go_wp2_with fail
  go_returns
  exact ⟨_, rfl, HC.out _ _ _, HB.out _ _ _⟩
end Go.Proofs.YtgpkdhbegkhjjaaDoor
namespace Go.Proofs.YtgpkdhbegkhjjaaDoor
open Go.RowKit RelA
attribute [local go_sem ↓] Go.wp_at_zero Go.wp_at_succ
attribute [local irreducible] Go.wpQuiet
set_option maxRecDepth 20000 in
set_option maxHeartbeats 8000000 in
theorem deps_p (g : Gr) (a : Option Addr) (L : List (Int × Int)) (c : Nat) (w : World) (hes : EsIn w g.ea g.E) (he : g.E.length ≤ 100) (h : PIn w a L c) (hl : L.length ≤ 400) :
    Calls Tryd.prog 17 #[g.v, .slice a L.length c] w (Exact (DepsOk g.E L) w) := by
  have HR := Lib.hid (fun w' (hb : Below w.heap.size w w') => rising_p a L c w' (h.next hb) hl)
  have HRD := Lib.hid (fun w' => reads_p g w')
  have HH := Lib.hid (fun i w' (hb : Below w.heap.size w w') => has_rd g.ea g.E g.ec i w' (hes.next hb) he)
  have HG0 := Lib.hid (GBox.of_alloc w g 28)
  obtain ⟨G, hG⟩ : ∃ G, G = g := ⟨_, rfl⟩
  obtain ⟨locs, ea, E, ec, ra, R, rc, ca, C, cc, ma, Rmw, mc, da, Data, dc, ta, Ctrl, tc, ia, CtrlI, ic⟩ := g
  simp only [Gr.v, gcells] at hes he HRD HH HG0 ⊢
  rw [← hG] at HG0
  have HI := Lib.hid h
  have HES := Lib.hid hes
  clear h hes
  go_enter Tryd.func17, Tryd.ntmps17
  go_wp2_with fail
  obtain ⟨w1, hw1⟩ : ∃ x, x = w.alloc (Obj.cells #[.int .i64 locs, .slice ea E.length ec, .slice ra R.length rc, .slice ca C.length cc, .slice ma Rmw.length mc, .slice da Data.length dc, .slice ta Ctrl.length tc, .slice ia CtrlI.length ic] 28 (0, 0)) := ⟨_, rfl⟩
  rw [← hw1] at HG0 ⊢
  have HB1 : Hid (Below w.heap.size w w1) := Lib.hid (by rw [hw1]; exact (Below.refl _ _).alloc (Nat.le_refl _) _)
  clear hw1
  have HI1 := Lib.hid (HI.out.next HB1.out)
  have HE1 := Lib.hid (HES.out.next HB1.out)
  have HH1 := Lib.hid (fun i w' (hb : Below w1.heap.size w1 w') => HH.out i w' (below_next HB1.out hb))
  clear HI HES HH
  go_loopw [9] (fun v wr => Below w1.heap.size w1 wr ∧ ∃ k : Nat, k ≤ L.length ∧ v = .int .i64 k ∧ Hid (∀ j, j < k → DepOk E (L.getD j (0, 0)))) (fun v _ => L.length - (intOf v).toNat)
  case atStart => exact ⟨Below.refl _ _, 0, by omega, rfl, Lib.hid (fun j _ => by omega)⟩
  case round =>
    obtain ⟨hbe, k, hk, rfl, HD⟩ := hrel
    by_cases hlt : k < L.length
    · have hdk : decide ((k : Int) < (L.length : Int)) = true := by simp; omega
      have hki : (k : Int) < (L.length : Int) := by omega
      have hk9 : (k : Int) < 1000 := by omega
      have HS : Hid (DepOk E (L.getD k (0, 0)) → ∀ j, j < k + 1 → DepOk E (L.getD j (0, 0))) := Lib.hid (fun hx j b => by
        rcases Nat.lt_succ_iff_lt_or_eq.1 b with e | rfl
        · exact HD.out j e
        · exact hx)
      have HN : Hid (¬ DepOk E (L.getD k (0, 0)) → ¬ DepsOk E L) := Lib.hid (fun hx hP => hx (hP.1 k hlt))
      rcases HI1.out.next hbe with ⟨_, h0, _⟩ | ⟨_, _, h0⟩ | ⟨b, o, rfl, hbl, hcc⟩
      · rw [h0] at hlt; simp at hlt
      · rw [h0] at hlt; simp at hlt
      · obtain ⟨p0, p1⟩ := hcc k hlt
        have HBE := Lib.hid hbe
        clear hcc HD hbl hbe
        generalize L.getD k (0, 0) = p at *
        obtain ⟨x, y⟩ := p
        dsimp only at p0 p1
        have HW : Hid (∀ o, Below w1.heap.size w1 (wr.alloc o)) := Lib.hid (fun o => below_next HBE.out ((Below.refl _ _).alloc (Nat.le_refl _) o))
        have HHX := Lib.hid (HH1.out x)
        cases hh : inSet E pRd1 x
        · have HNO := Lib.hid (HN.out (by
            rintro ⟨m, n, e, hmn, hn, k1, _⟩
            obtain ⟨rfl, rfl⟩ := Prod.mk.inj e
            rw [inSet_at (by omega)] at hh
            unfold pRd1 at hh
            rw [k1] at hh
            exact absurd hh (by decide)))
          rw [hh] at HHX
          clear hh HS HN
          go_wp2_with fail
          obtain ⟨c0, c1, c2, c3, c4, c5, c6, c7⟩ := HG0.out.next (HW.out (Obj.cells #[.int .i64 x, .int .i64 y] 40 (0, 0)))
          rw [hG] at c0 c1 c2 c3 c4 c5 c6 c7
          dsimp only at c0 c1 c2 c3 c4 c5 c6 c7
          have pb0 : (wr.alloc (Obj.cells #[.int .i64 x, .int .i64 y] 40 (0, 0))).cell? ⟨wr.heap.size, 0, none⟩ = some (.int .i64 x) := by rw [cell_of_row _ _ _ _ _ _ (heap_alloc_new _ _)]; rfl
          have pb1 : (wr.alloc (Obj.cells #[.int .i64 x, .int .i64 y] 40 (0, 0))).cell? ⟨wr.heap.size, 1, none⟩ = some (.int .i64 y) := by rw [cell_of_row _ _ _ _ _ _ (heap_alloc_new _ _)]; rfl
          have HBW := Lib.hid (HW.out (Obj.cells #[.int .i64 x, .int .i64 y] 40 (0, 0)))
          clear p0 p1 HBE HW
          generalize wr.alloc (Obj.cells #[.int .i64 x, .int .i64 y] 40 (0, 0)) = W0 at *
          refine wp_region_quiet (C := (fun W => W.cell? ⟨w.heap.size, 0, none⟩ = some (.int .i64 locs) ∧ W.cell? ⟨w.heap.size, 1, none⟩ = some (.slice ea E.length ec) ∧ W.cell? ⟨w.heap.size, 2, none⟩ = some (.slice ra R.length rc) ∧ W.cell? ⟨w.heap.size, 3, none⟩ = some (.slice ca C.length cc) ∧ W.cell? ⟨w.heap.size, 4, none⟩ = some (.slice ma Rmw.length mc) ∧ W.cell? ⟨w.heap.size, 5, none⟩ = some (.slice da Data.length dc) ∧ W.cell? ⟨w.heap.size, 6, none⟩ = some (.slice ta Ctrl.length tc) ∧ W.cell? ⟨w.heap.size, 7, none⟩ = some (.slice ia CtrlI.length ic) ∧ W.cell? ⟨wr.heap.size, 0, none⟩ = some (.int .i64 x) ∧ W.cell? ⟨wr.heap.size, 1, none⟩ = some (.int .i64 y) ∧ Bl w1 W)) (by kernel_rfl) (by kernel_rfl) ⟨c0, c1, c2, c3, c4, c5, c6, c7, pb0, pb1, ⟨HBW.out.drew⟩⟩ ?_
          repeat (first | (refine wpq_skip (by rfl) ?_; simp only [Act.put, List.setIfInBounds_toArray, List.set_cons_zero, List.set_cons_succ]) | (refine wpq_do (by rfl) ?_; apply Exists.intro; refine ⟨fun W hW => ?_, ?_⟩; ((try dsimp only at hW); go_simp; first | done | with_reducible rfl | (go_at_call 25; obtain ⟨c0, c1, c2, c3, c4, c5, c6, c7, pb0, pb1, hBl⟩ := hW; refine (HHX.out _ hBl.out).mono ?_; rintro en wn ⟨rfl, hbe⟩; exact ⟨rfl, ⟨cell_next c0 hbe, cell_next c1 hbe, cell_next c2 hbe, cell_next c3 hbe, cell_next c4 hbe, cell_next c5 hbe, cell_next c6 hbe, cell_next c7 hbe, cell_next pb0 hbe, cell_next pb1 hbe, ⟨below_next hBl.out hbe⟩⟩⟩) | (go_at_call 28; obtain ⟨c0, c1, c2, c3, c4, c5, c6, c7, pb0, pb1, hBl⟩ := hW; refine (HRD.out _).mono ?_; rintro en wn ⟨rfl, hbe⟩; exact ⟨rfl, ⟨cell_next c0 hbe, cell_next c1 hbe, cell_next c2 hbe, cell_next c3 hbe, cell_next c4 hbe, cell_next c5 hbe, cell_next c6 hbe, cell_next c7 hbe, cell_next pb0 hbe, cell_next pb1 hbe, ⟨below_next hBl.out hbe⟩⟩⟩)); simp only [Act.put, List.setIfInBounds_toArray, List.set_cons_zero, List.set_cons_succ]))
          refine wpQuiet_nil ?_
          intro W hW
          obtain ⟨c0, c1, c2, c3, c4, c5, c6, c7, pb0, pb1, hBl⟩ := hW
          have HB := Lib.hid hBl.out
          go_wp2_with fail
          go_ret
          exact Exact.no (below_next HB1.out HB.out) HNO.out
        · rw [hh] at HHX
          have hx0 : 0 ≤ x := Classical.byContradiction fun hx => by rw [inSet_neg hx] at hh; cases hh
          obtain ⟨m, rfl⟩ := Int.eq_ofNat_of_zero_le hx0
          have hm : m < E.length := Classical.byContradiction fun hx => by rw [inSet_out hx] at hh; cases hh
          rw [inSet_at hm] at hh
          have hk1 : (Ev.at E m).kd = 1 := by unfold pRd1 at hh; simpa using hh
          clear hh hx0
          by_cases e2 : y ≤ m
          · have l2 : decide (y ≤ (m : Int)) = true := by simp [e2]
            have HNO := Lib.hid (HN.out (by rintro ⟨m2, n, e, hmn, hn, _⟩; obtain ⟨e3, rfl⟩ := Prod.mk.inj e; omega))
            clear HS HN hk1
            go_wp2_with fail
            obtain ⟨c0, c1, c2, c3, c4, c5, c6, c7⟩ := HG0.out.next (HW.out (Obj.cells #[.int .i64 (m : Int), .int .i64 y] 40 (0, 0)))
            rw [hG] at c0 c1 c2 c3 c4 c5 c6 c7
            dsimp only at c0 c1 c2 c3 c4 c5 c6 c7
            have pb0 : (wr.alloc (Obj.cells #[.int .i64 (m : Int), .int .i64 y] 40 (0, 0))).cell? ⟨wr.heap.size, 0, none⟩ = some (.int .i64 (m : Int)) := by rw [cell_of_row _ _ _ _ _ _ (heap_alloc_new _ _)]; rfl
            have pb1 : (wr.alloc (Obj.cells #[.int .i64 (m : Int), .int .i64 y] 40 (0, 0))).cell? ⟨wr.heap.size, 1, none⟩ = some (.int .i64 y) := by rw [cell_of_row _ _ _ _ _ _ (heap_alloc_new _ _)]; rfl
            have HBW := Lib.hid (HW.out (Obj.cells #[.int .i64 (m : Int), .int .i64 y] 40 (0, 0)))
            clear p0 p1 HBE HW
            generalize wr.alloc (Obj.cells #[.int .i64 (m : Int), .int .i64 y] 40 (0, 0)) = W0 at *
            refine wp_region_quiet (C := (fun W => W.cell? ⟨w.heap.size, 0, none⟩ = some (.int .i64 locs) ∧ W.cell? ⟨w.heap.size, 1, none⟩ = some (.slice ea E.length ec) ∧ W.cell? ⟨w.heap.size, 2, none⟩ = some (.slice ra R.length rc) ∧ W.cell? ⟨w.heap.size, 3, none⟩ = some (.slice ca C.length cc) ∧ W.cell? ⟨w.heap.size, 4, none⟩ = some (.slice ma Rmw.length mc) ∧ W.cell? ⟨w.heap.size, 5, none⟩ = some (.slice da Data.length dc) ∧ W.cell? ⟨w.heap.size, 6, none⟩ = some (.slice ta Ctrl.length tc) ∧ W.cell? ⟨w.heap.size, 7, none⟩ = some (.slice ia CtrlI.length ic) ∧ W.cell? ⟨wr.heap.size, 0, none⟩ = some (.int .i64 (m : Int)) ∧ W.cell? ⟨wr.heap.size, 1, none⟩ = some (.int .i64 y) ∧ Bl w1 W)) (by kernel_rfl) (by kernel_rfl) ⟨c0, c1, c2, c3, c4, c5, c6, c7, pb0, pb1, ⟨HBW.out.drew⟩⟩ ?_
            repeat (first | (refine wpq_skip (by rfl) ?_; simp only [Act.put, List.setIfInBounds_toArray, List.set_cons_zero, List.set_cons_succ]) | (refine wpq_do (by rfl) ?_; apply Exists.intro; refine ⟨fun W hW => ?_, ?_⟩; ((try dsimp only at hW); go_simp; first | done | with_reducible rfl | (go_at_call 25; obtain ⟨c0, c1, c2, c3, c4, c5, c6, c7, pb0, pb1, hBl⟩ := hW; refine (HHX.out _ hBl.out).mono ?_; rintro en wn ⟨rfl, hbe⟩; exact ⟨rfl, ⟨cell_next c0 hbe, cell_next c1 hbe, cell_next c2 hbe, cell_next c3 hbe, cell_next c4 hbe, cell_next c5 hbe, cell_next c6 hbe, cell_next c7 hbe, cell_next pb0 hbe, cell_next pb1 hbe, ⟨below_next hBl.out hbe⟩⟩⟩) | (go_at_call 28; obtain ⟨c0, c1, c2, c3, c4, c5, c6, c7, pb0, pb1, hBl⟩ := hW; refine (HRD.out _).mono ?_; rintro en wn ⟨rfl, hbe⟩; exact ⟨rfl, ⟨cell_next c0 hbe, cell_next c1 hbe, cell_next c2 hbe, cell_next c3 hbe, cell_next c4 hbe, cell_next c5 hbe, cell_next c6 hbe, cell_next c7 hbe, cell_next pb0 hbe, cell_next pb1 hbe, ⟨below_next hBl.out hbe⟩⟩⟩)); simp only [Act.put, List.setIfInBounds_toArray, List.set_cons_zero, List.set_cons_succ]))
            refine wpQuiet_nil ?_
            intro W hW
            obtain ⟨c0, c1, c2, c3, c4, c5, c6, c7, pb0, pb1, hBl⟩ := hW
            have HB := Lib.hid hBl.out
            go_wp2_with fail
            go_ret
            exact Exact.no (below_next HB1.out HB.out) HNO.out
          · have l2 : decide (y ≤ (m : Int)) = false := by simp [e2]
            obtain ⟨n, rfl⟩ := Int.eq_ofNat_of_zero_le (show 0 ≤ y by omega)
            have hmn : m < n := by omega
            have l2n : decide (n ≤ m) = false := by simp <;> omega
            by_cases hn : n < E.length
            · have l3 : decide ((E.length : Int) ≤ (n : Int)) = false := by simp <;> omega
              have l3n : decide (E.length ≤ n) = false := by simp <;> omega
              have hmi : (m : Int) < (E.length : Int) := by omega
              have hni : (n : Int) < (E.length : Int) := by omega
              have hw1 : IntKind.i64.wrap (m : Int) = (m : Int) := IntWalk.i64_in _ (by omega)
              have hw2 : IntKind.i64.wrap (n : Int) = (n : Int) := IntWalk.i64_in _ (by omega)
              rcases HE1.out.next HBE.out with h0 | ⟨eb, eo, rfl, hebl, hecc⟩
              · rw [h0] at hm; simp at hm
              · have d0 := (hecc m hm).c0
                have f0 := (hecc n hn).c0
                clear hecc hebl
                change _ = some (Value.int _ (Ev.at E m).th) at d0
                change _ = some (Value.int _ (Ev.at E n).th) at f0
                have HT : Hid ((Ev.at E m).th = (Ev.at E n).th → DepOk E ((m : Int), (n : Int))) := Lib.hid (fun e => ⟨m, n, rfl, hmn, hn, hk1, e⟩)
                have HF : Hid (¬ (Ev.at E m).th = (Ev.at E n).th → ¬ DepOk E ((m : Int), (n : Int))) := Lib.hid (by
                  rintro e ⟨m2, n2, e2, _, _, _, e3⟩
                  obtain ⟨q1, q2⟩ := Prod.mk.inj e2
                  obtain rfl : m = m2 := by omega
                  obtain rfl : n = n2 := by omega
                  exact e e3)
                clear hk1
                generalize (Ev.at E m).th = x0 at *
                generalize (Ev.at E n).th = y0 at *
                by_cases e5 : x0 = y0
                · have HL := Lib.hid (HS.out (HT.out e5))
                  subst e5
                  have l5 : (x0 != x0) = false := by simp
                  clear HS HN HT HF
                  go_wp2_with fail
                  obtain ⟨c0, c1, c2, c3, c4, c5, c6, c7⟩ := HG0.out.next (HW.out (Obj.cells #[.int .i64 (m : Int), .int .i64 (n : Int)] 40 (0, 0)))
                  rw [hG] at c0 c1 c2 c3 c4 c5 c6 c7
                  dsimp only at c0 c1 c2 c3 c4 c5 c6 c7
                  have pb0 : (wr.alloc (Obj.cells #[.int .i64 (m : Int), .int .i64 (n : Int)] 40 (0, 0))).cell? ⟨wr.heap.size, 0, none⟩ = some (.int .i64 (m : Int)) := by rw [cell_of_row _ _ _ _ _ _ (heap_alloc_new _ _)]; rfl
                  have pb1 : (wr.alloc (Obj.cells #[.int .i64 (m : Int), .int .i64 (n : Int)] 40 (0, 0))).cell? ⟨wr.heap.size, 1, none⟩ = some (.int .i64 (n : Int)) := by rw [cell_of_row _ _ _ _ _ _ (heap_alloc_new _ _)]; rfl
                  have HBW := Lib.hid (HW.out (Obj.cells #[.int .i64 (m : Int), .int .i64 (n : Int)] 40 (0, 0)))
                  have e0 := cell_next d0 ((Below.refl _ _).alloc (Nat.le_refl _) (Obj.cells #[.int .i64 (m : Int), .int .i64 (n : Int)] 40 (0, 0)))
                  have g0 := cell_next f0 ((Below.refl _ _).alloc (Nat.le_refl _) (Obj.cells #[.int .i64 (m : Int), .int .i64 (n : Int)] 40 (0, 0)))
                  clear d0 f0
                  clear p0 p1 HBE HW
                  generalize wr.alloc (Obj.cells #[.int .i64 (m : Int), .int .i64 (n : Int)] 40 (0, 0)) = W0 at *
                  refine wp_region_quiet (C := (fun W => W.cell? ⟨w.heap.size, 0, none⟩ = some (.int .i64 locs) ∧ W.cell? ⟨w.heap.size, 1, none⟩ = some (.slice (some ⟨eb, eo, none⟩) E.length ec) ∧ W.cell? ⟨w.heap.size, 2, none⟩ = some (.slice ra R.length rc) ∧ W.cell? ⟨w.heap.size, 3, none⟩ = some (.slice ca C.length cc) ∧ W.cell? ⟨w.heap.size, 4, none⟩ = some (.slice ma Rmw.length mc) ∧ W.cell? ⟨w.heap.size, 5, none⟩ = some (.slice da Data.length dc) ∧ W.cell? ⟨w.heap.size, 6, none⟩ = some (.slice ta Ctrl.length tc) ∧ W.cell? ⟨w.heap.size, 7, none⟩ = some (.slice ia CtrlI.length ic) ∧ W.cell? ⟨wr.heap.size, 0, none⟩ = some (.int .i64 (m : Int)) ∧ W.cell? ⟨wr.heap.size, 1, none⟩ = some (.int .i64 (n : Int)) ∧ W.cell? ⟨eb, eo + m * 6, none⟩ = some (.int .i64 x0) ∧ W.cell? ⟨eb, eo + n * 6, none⟩ = some (.int .i64 x0) ∧ Bl w1 W)) (by kernel_rfl) (by kernel_rfl) ⟨c0, c1, c2, c3, c4, c5, c6, c7, pb0, pb1, e0, g0, ⟨HBW.out.drew⟩⟩ ?_
                  repeat (first | (refine wpq_skip (by rfl) ?_; simp only [Act.put, List.setIfInBounds_toArray, List.set_cons_zero, List.set_cons_succ]) | (refine wpq_do (by rfl) ?_; apply Exists.intro; refine ⟨fun W hW => ?_, ?_⟩; ((try dsimp only at hW); go_simp; first | done | with_reducible rfl | (go_at_call 25; obtain ⟨c0, c1, c2, c3, c4, c5, c6, c7, pb0, pb1, e0, g0, hBl⟩ := hW; refine (HHX.out _ hBl.out).mono ?_; rintro en wn ⟨rfl, hbe⟩; exact ⟨rfl, ⟨cell_next c0 hbe, cell_next c1 hbe, cell_next c2 hbe, cell_next c3 hbe, cell_next c4 hbe, cell_next c5 hbe, cell_next c6 hbe, cell_next c7 hbe, cell_next pb0 hbe, cell_next pb1 hbe, cell_next e0 hbe, cell_next g0 hbe, ⟨below_next hBl.out hbe⟩⟩⟩) | (go_at_call 28; obtain ⟨c0, c1, c2, c3, c4, c5, c6, c7, pb0, pb1, e0, g0, hBl⟩ := hW; refine (HRD.out _).mono ?_; rintro en wn ⟨rfl, hbe⟩; exact ⟨rfl, ⟨cell_next c0 hbe, cell_next c1 hbe, cell_next c2 hbe, cell_next c3 hbe, cell_next c4 hbe, cell_next c5 hbe, cell_next c6 hbe, cell_next c7 hbe, cell_next pb0 hbe, cell_next pb1 hbe, cell_next e0 hbe, cell_next g0 hbe, ⟨below_next hBl.out hbe⟩⟩⟩)); simp only [Act.put, List.setIfInBounds_toArray, List.set_cons_zero, List.set_cons_succ]))
                  refine wpQuiet_nil ?_
                  intro W hW
                  obtain ⟨c0, c1, c2, c3, c4, c5, c6, c7, pb0, pb1, e0, g0, hBl⟩ := hW
                  have HB := Lib.hid hBl.out
                  go_wp2_with fail
                  go_roundw
                  case rel => exact ⟨HB.out, k + 1, by omega, by go_num, HL⟩
                  case measure => simp [intOf]; omega
                · have HNO := Lib.hid (HN.out (HF.out e5))
                  have l5 : (x0 != y0) = true := by simp [e5]
                  clear HS HN HT HF
                  go_wp2_with fail
                  obtain ⟨c0, c1, c2, c3, c4, c5, c6, c7⟩ := HG0.out.next (HW.out (Obj.cells #[.int .i64 (m : Int), .int .i64 (n : Int)] 40 (0, 0)))
                  rw [hG] at c0 c1 c2 c3 c4 c5 c6 c7
                  dsimp only at c0 c1 c2 c3 c4 c5 c6 c7
                  have pb0 : (wr.alloc (Obj.cells #[.int .i64 (m : Int), .int .i64 (n : Int)] 40 (0, 0))).cell? ⟨wr.heap.size, 0, none⟩ = some (.int .i64 (m : Int)) := by rw [cell_of_row _ _ _ _ _ _ (heap_alloc_new _ _)]; rfl
                  have pb1 : (wr.alloc (Obj.cells #[.int .i64 (m : Int), .int .i64 (n : Int)] 40 (0, 0))).cell? ⟨wr.heap.size, 1, none⟩ = some (.int .i64 (n : Int)) := by rw [cell_of_row _ _ _ _ _ _ (heap_alloc_new _ _)]; rfl
                  have HBW := Lib.hid (HW.out (Obj.cells #[.int .i64 (m : Int), .int .i64 (n : Int)] 40 (0, 0)))
                  have e0 := cell_next d0 ((Below.refl _ _).alloc (Nat.le_refl _) (Obj.cells #[.int .i64 (m : Int), .int .i64 (n : Int)] 40 (0, 0)))
                  have g0 := cell_next f0 ((Below.refl _ _).alloc (Nat.le_refl _) (Obj.cells #[.int .i64 (m : Int), .int .i64 (n : Int)] 40 (0, 0)))
                  clear d0 f0
                  clear p0 p1 HBE HW
                  generalize wr.alloc (Obj.cells #[.int .i64 (m : Int), .int .i64 (n : Int)] 40 (0, 0)) = W0 at *
                  refine wp_region_quiet (C := (fun W => W.cell? ⟨w.heap.size, 0, none⟩ = some (.int .i64 locs) ∧ W.cell? ⟨w.heap.size, 1, none⟩ = some (.slice (some ⟨eb, eo, none⟩) E.length ec) ∧ W.cell? ⟨w.heap.size, 2, none⟩ = some (.slice ra R.length rc) ∧ W.cell? ⟨w.heap.size, 3, none⟩ = some (.slice ca C.length cc) ∧ W.cell? ⟨w.heap.size, 4, none⟩ = some (.slice ma Rmw.length mc) ∧ W.cell? ⟨w.heap.size, 5, none⟩ = some (.slice da Data.length dc) ∧ W.cell? ⟨w.heap.size, 6, none⟩ = some (.slice ta Ctrl.length tc) ∧ W.cell? ⟨w.heap.size, 7, none⟩ = some (.slice ia CtrlI.length ic) ∧ W.cell? ⟨wr.heap.size, 0, none⟩ = some (.int .i64 (m : Int)) ∧ W.cell? ⟨wr.heap.size, 1, none⟩ = some (.int .i64 (n : Int)) ∧ W.cell? ⟨eb, eo + m * 6, none⟩ = some (.int .i64 x0) ∧ W.cell? ⟨eb, eo + n * 6, none⟩ = some (.int .i64 y0) ∧ Bl w1 W)) (by kernel_rfl) (by kernel_rfl) ⟨c0, c1, c2, c3, c4, c5, c6, c7, pb0, pb1, e0, g0, ⟨HBW.out.drew⟩⟩ ?_
                  repeat (first | (refine wpq_skip (by rfl) ?_; simp only [Act.put, List.setIfInBounds_toArray, List.set_cons_zero, List.set_cons_succ]) | (refine wpq_do (by rfl) ?_; apply Exists.intro; refine ⟨fun W hW => ?_, ?_⟩; ((try dsimp only at hW); go_simp; first | done | with_reducible rfl | (go_at_call 25; obtain ⟨c0, c1, c2, c3, c4, c5, c6, c7, pb0, pb1, e0, g0, hBl⟩ := hW; refine (HHX.out _ hBl.out).mono ?_; rintro en wn ⟨rfl, hbe⟩; exact ⟨rfl, ⟨cell_next c0 hbe, cell_next c1 hbe, cell_next c2 hbe, cell_next c3 hbe, cell_next c4 hbe, cell_next c5 hbe, cell_next c6 hbe, cell_next c7 hbe, cell_next pb0 hbe, cell_next pb1 hbe, cell_next e0 hbe, cell_next g0 hbe, ⟨below_next hBl.out hbe⟩⟩⟩) | (go_at_call 28; obtain ⟨c0, c1, c2, c3, c4, c5, c6, c7, pb0, pb1, e0, g0, hBl⟩ := hW; refine (HRD.out _).mono ?_; rintro en wn ⟨rfl, hbe⟩; exact ⟨rfl, ⟨cell_next c0 hbe, cell_next c1 hbe, cell_next c2 hbe, cell_next c3 hbe, cell_next c4 hbe, cell_next c5 hbe, cell_next c6 hbe, cell_next c7 hbe, cell_next pb0 hbe, cell_next pb1 hbe, cell_next e0 hbe, cell_next g0 hbe, ⟨below_next hBl.out hbe⟩⟩⟩)); simp only [Act.put, List.setIfInBounds_toArray, List.set_cons_zero, List.set_cons_succ]))
                  refine wpQuiet_nil ?_
                  intro W hW
                  obtain ⟨c0, c1, c2, c3, c4, c5, c6, c7, pb0, pb1, e0, g0, hBl⟩ := hW
                  have HB := Lib.hid hBl.out
                  go_wp2_with fail
                  go_ret
                  exact Exact.no (below_next HB1.out HB.out) HNO.out
            · have l3 : decide ((E.length : Int) ≤ (n : Int)) = true := by simp; omega
              have l3n : decide (E.length ≤ n) = true := by simp; omega
              have HNO := Lib.hid (HN.out (by rintro ⟨m2, n2, e, _, hn2, _⟩; obtain ⟨q1, q2⟩ := Prod.mk.inj e; omega))
              clear HS HN hk1
              go_wp2_with fail
              obtain ⟨c0, c1, c2, c3, c4, c5, c6, c7⟩ := HG0.out.next (HW.out (Obj.cells #[.int .i64 (m : Int), .int .i64 (n : Int)] 40 (0, 0)))
              rw [hG] at c0 c1 c2 c3 c4 c5 c6 c7
              dsimp only at c0 c1 c2 c3 c4 c5 c6 c7
              have pb0 : (wr.alloc (Obj.cells #[.int .i64 (m : Int), .int .i64 (n : Int)] 40 (0, 0))).cell? ⟨wr.heap.size, 0, none⟩ = some (.int .i64 (m : Int)) := by rw [cell_of_row _ _ _ _ _ _ (heap_alloc_new _ _)]; rfl
              have pb1 : (wr.alloc (Obj.cells #[.int .i64 (m : Int), .int .i64 (n : Int)] 40 (0, 0))).cell? ⟨wr.heap.size, 1, none⟩ = some (.int .i64 (n : Int)) := by rw [cell_of_row _ _ _ _ _ _ (heap_alloc_new _ _)]; rfl
              have HBW := Lib.hid (HW.out (Obj.cells #[.int .i64 (m : Int), .int .i64 (n : Int)] 40 (0, 0)))
              clear p0 p1 HBE HW
              generalize wr.alloc (Obj.cells #[.int .i64 (m : Int), .int .i64 (n : Int)] 40 (0, 0)) = W0 at *
              refine wp_region_quiet (C := (fun W => W.cell? ⟨w.heap.size, 0, none⟩ = some (.int .i64 locs) ∧ W.cell? ⟨w.heap.size, 1, none⟩ = some (.slice ea E.length ec) ∧ W.cell? ⟨w.heap.size, 2, none⟩ = some (.slice ra R.length rc) ∧ W.cell? ⟨w.heap.size, 3, none⟩ = some (.slice ca C.length cc) ∧ W.cell? ⟨w.heap.size, 4, none⟩ = some (.slice ma Rmw.length mc) ∧ W.cell? ⟨w.heap.size, 5, none⟩ = some (.slice da Data.length dc) ∧ W.cell? ⟨w.heap.size, 6, none⟩ = some (.slice ta Ctrl.length tc) ∧ W.cell? ⟨w.heap.size, 7, none⟩ = some (.slice ia CtrlI.length ic) ∧ W.cell? ⟨wr.heap.size, 0, none⟩ = some (.int .i64 (m : Int)) ∧ W.cell? ⟨wr.heap.size, 1, none⟩ = some (.int .i64 (n : Int)) ∧ Bl w1 W)) (by kernel_rfl) (by kernel_rfl) ⟨c0, c1, c2, c3, c4, c5, c6, c7, pb0, pb1, ⟨HBW.out.drew⟩⟩ ?_
              repeat (first | (refine wpq_skip (by rfl) ?_; simp only [Act.put, List.setIfInBounds_toArray, List.set_cons_zero, List.set_cons_succ]) | (refine wpq_do (by rfl) ?_; apply Exists.intro; refine ⟨fun W hW => ?_, ?_⟩; ((try dsimp only at hW); go_simp; first | done | with_reducible rfl | (go_at_call 25; obtain ⟨c0, c1, c2, c3, c4, c5, c6, c7, pb0, pb1, hBl⟩ := hW; refine (HHX.out _ hBl.out).mono ?_; rintro en wn ⟨rfl, hbe⟩; exact ⟨rfl, ⟨cell_next c0 hbe, cell_next c1 hbe, cell_next c2 hbe, cell_next c3 hbe, cell_next c4 hbe, cell_next c5 hbe, cell_next c6 hbe, cell_next c7 hbe, cell_next pb0 hbe, cell_next pb1 hbe, ⟨below_next hBl.out hbe⟩⟩⟩) | (go_at_call 28; obtain ⟨c0, c1, c2, c3, c4, c5, c6, c7, pb0, pb1, hBl⟩ := hW; refine (HRD.out _).mono ?_; rintro en wn ⟨rfl, hbe⟩; exact ⟨rfl, ⟨cell_next c0 hbe, cell_next c1 hbe, cell_next c2 hbe, cell_next c3 hbe, cell_next c4 hbe, cell_next c5 hbe, cell_next c6 hbe, cell_next c7 hbe, cell_next pb0 hbe, cell_next pb1 hbe, ⟨below_next hBl.out hbe⟩⟩⟩)); simp only [Act.put, List.setIfInBounds_toArray, List.set_cons_zero, List.set_cons_succ]))
              refine wpQuiet_nil ?_
              intro W hW
              obtain ⟨c0, c1, c2, c3, c4, c5, c6, c7, pb0, pb1, hBl⟩ := hW
              have HB := Lib.hid hBl.out
              go_wp2_with fail
              go_ret
              exact Exact.no (below_next HB1.out HB.out) HNO.out
    · have hdk : decide ((k : Int) < (L.length : Int)) = false := by simp; omega
      have HL : Hid (∀ j, j < L.length → DepOk E (L.getD j (0, 0))) := Lib.hid (fun j a => HD.out j (by omega))
      have HB := Lib.hid (below_next HB1.out hbe)
      clear hbe
      go_wp2_with fail
      refine (HR.out _ HB.out).mono ?_
      rintro e wn ⟨x, rfl, hx, hbn⟩
      have HX := Lib.hid hx
      have HBN := Lib.hid (below_next HB.out hbn)
      clear hx hbn
      go_wp2_with fail
      go_ret
      exact ⟨_, rfl, ⟨fun e => ⟨HL.out, HX.out.1 e⟩, fun e => HX.out.2 e.2⟩, HBN.out⟩
end Go.Proofs.YtgpkdhbegkhjjaaDoor
