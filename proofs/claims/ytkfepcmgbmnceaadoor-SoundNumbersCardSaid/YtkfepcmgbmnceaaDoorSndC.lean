import Derived.Test.YtkfepcmgbmnceaaDoorSndB
import Derived.Deep.RegionHeld3
namespace Go.Proofs.YtkfepcmgbmnceaaDoor
open Go.RowKit ExprA SndA
namespace SndA
def regsL (E : List (Int × Int)) : List Int := regsTo E E.length
/-- at most one register -/
def Few (E : List (Int × Int)) : Prop := regsL E = [] ∨ ∃ x, regsL E = [x]
/-- a row of registers that a call has handed back -/
def RIn (w : World) (pa : Option Addr) (n : Nat) (l : List Int) : Prop := n = l.length ∧ (l = [] ∨ ∃ g, pa = some ⟨g, 0, none⟩ ∧ NIn w pa l)
def exprB (words : Nat) (without : Bool) (r : Int) (E : List (Int × Int)) : Bool :=
  if words = 0 then decide (E.length = 0) else decide (E.length ≤ words) && checkB E && !(without && decide (r ∈ regsL E))
/-- what lies while a walk goes on: words, and that nothing old turns -/
structure EBel (a : Option Addr) (E : List (Int × Int)) (w0 w : World) : Prop where
  tin : TIn w a E
  bel : Below w0.heap.size w0 w
theorem EBel.next {a : Option Addr} {E : List (Int × Int)} {w0 w w' : World} (h : EBel a E w0 w) (hb : Below w.heap.size w w') : EBel a E w0 w' := ⟨h.tin.next hb, below_next h.bel hb⟩
structure EOne (a : Option Addr) (E : List (Int × Int)) (w0 w : World) : Prop where
  out : EBel a E w0 w
theorem EOne.next {a : Option Addr} {E : List (Int × Int)} {w0 w w' : World} (h : EOne a E w0 w) (hb : Below w.heap.size w w') : EOne a E w0 w' := ⟨h.out.next hb⟩
theorem EOne.drew {a : Option Addr} {E : List (Int × Int)} {w0 w : World} (h : EOne a E w0 w) : EOne a E w0 w.drew := h.next (bel_drewN w 1)
theorem cell_next {x : Addr} {v : Value} {w w' : World} (h : w.cell? x = some v) (hb : Below w.heap.size w w') : w'.cell? x = some v := (hb.cell (p := x) (World.block_lt_of_cell? w x h)).trans h
end SndA
set_option maxRecDepth 100000 in
set_option maxHeartbeats 1600000 in
theorem clip_nil (w : World) : Calls Tryd.prog 29 #[.slice none 0 0] w fun e w' => e = .returned (.slice none 0 0) ∧ w = w' := by
  go_enter Tryd.func29, Tryd.ntmps29
  go_wp2_with fail
  go_ret
  exact ⟨rfl, rfl⟩
set_option maxRecDepth 100000 in
set_option maxHeartbeats 8000000 in
theorem regs_empty (a : Option Addr) (L : List (Int × Int)) (c : Nat) (w : World) (h : TIn w a L) (hL : L.length ≤ 100) (hne : regsTo L L.length = []) :
    Calls Tryd.prog 24 #[.slice a L.length c] w fun e w' => e = .returned (.slice none 0 0) ∧ Below w.heap.size w w' := by
  have HI := Lib.hid h
  have HNO : Hid (∀ q, q < L.length → (L.getD q (0, 0)).1 ≠ 2) := Lib.hid (fun q hq e => by
    have hm : L[q] ∈ L.filter fun p => p.1 == 2 := by
      rw [List.mem_filter]
      refine ⟨List.getElem_mem hq, ?_⟩
      have e2 : L.getD q (0, 0) = L[q] := by simp [hq]
      rw [← e2, e]; rfl
    have h2 : (L[q]).2 ∈ regsTo L L.length := by
      unfold regsTo
      rw [List.take_length]
      exact List.mem_map.2 ⟨_, hm, rfl⟩
    rw [hne] at h2
    simp at h2)
  clear h hne
  go_enter Tryd.func24, Tryd.ntmps24
  go_wp2_with fail
  go_loopw [3, 8] (fun v x wr => ∃ q : Nat, q ≤ L.length ∧ x = .int .i64 q ∧ v = .slice none 0 0 ∧ Below w.heap.size w wr) (fun _ x _ => L.length - (intOf x).toNat)
  case atStart => exact ⟨0, Nat.zero_le _, rfl, rfl, Below.refl _ _⟩
  case round =>
    obtain ⟨q, hq, rfl, rfl, hbe⟩ := hrel
    have hsz := hbe.size
    have hqi9 : (q : Int) ≤ 100 := by omega
    by_cases hlt : q < L.length
    · have hdk : decide ((q : Int) < (L.length : Int)) = true := by simp; omega
      have hqi : (q : Int) < (L.length : Int) := by omega
      rcases HI.out.next hbe with h0 | ⟨b, o, rfl, hbl, hcc⟩
      · rw [h0] at hlt; simp at hlt
      · have hc1 := (hcc q hlt).1
        have hc2 := (hcc q hlt).2
        have hk2 := HNO.out q hlt
        clear hcc
        have HB := Lib.hid hbe
        clear hbe
        generalize L.getD q (0, 0) = pp at *
        obtain ⟨tk, tv⟩ := pp
        dsimp only at hc1 hc2 hk2
        go_wp2_with fail
        go_roundw
        case rel => exact ⟨q + 1, hlt, by go_num, rfl, HB.out.alloc hsz _⟩
        case measure => simp [intOf]; omega
    · have hdk : decide ((q : Int) < (L.length : Int)) = false := by simp; omega
      have HB := Lib.hid hbe
      clear hbe
      go_wp2_with fail
      refine (Tryd.slices_Sort_int_none none 0 _).mono ?_
      rintro e w5 ⟨rfl, rfl⟩
      go_wp2_with fail
      refine (Tryd.slices_Compact_int_empty none 0 _).mono ?_
      rintro e w6 ⟨rfl, rfl⟩
      go_wp2_with fail
      refine (clip_nil _).mono ?_
      rintro e w7 ⟨rfl, rfl⟩
      go_wp2_with fail
      go_ret
      exact ⟨rfl, HB.out⟩
theorem regs_small (a : Option Addr) (E : List (Int × Int)) (c : Nat) (w : World) (h : TIn w a E) (hL : E.length ≤ 100) (hf : Few E) :
    Calls Tryd.prog 24 #[.slice a E.length c] w fun e w' => ∃ pa n c', e = .returned (.slice pa n c') ∧ RIn w' pa n (regsL E) ∧ Below w.heap.size w w' := by
  rcases hf with h0 | ⟨x, h1⟩
  · refine (regs_empty a E c w h hL h0).mono ?_
    rintro e w' ⟨rfl, hb⟩
    exact ⟨_, _, _, rfl, ⟨by rw [h0]; rfl, .inl h0⟩, hb⟩
  · have e1 : regsTo E E.length = [x] := h1
    refine (regs_any a E c w h hL (by rw [e1]; simp) (by rw [e1]; exact List.mergeSort_of_pairwise (by simp)) (by rw [e1]; rfl)).mono ?_
    rintro e w' ⟨g, rfl, hn, hb⟩
    exact ⟨_, _, _, rfl, ⟨rfl, .inr ⟨g, rfl, hn⟩⟩, hb⟩
theorem contains_small (pa : Option Addr) (n c : Nat) (l : List Int) (x : Int) (w : World) (h : RIn w pa n l) (hl : l.length ≤ 1000) :
    Calls Tryd.prog 23 #[.slice pa n c, .int .i64 x] w fun e w' => e = .returned (.bool (decide (x ∈ l))) ∧ w = w' := by
  obtain ⟨rfl, h | ⟨g, rfl, h⟩⟩ := h
  · subst h
    refine (Tryd.slices_Contains_int_empty pa c x w).mono ?_
    rintro e w' ⟨rfl, rfl⟩
    exact ⟨by simp, rfl⟩
  · rcases h with h0 | ⟨b, o, e, _, hcc⟩
    · subst h0
      refine (Tryd.slices_Contains_int_empty _ c x w).mono ?_
      rintro e w' ⟨rfl, rfl⟩
      exact ⟨by simp, rfl⟩
    · simp only [Option.some.injEq, Addr.mk.injEq, and_true] at e
      obtain ⟨rfl, rfl⟩ := e
      refine (Tryd.slices_Contains_int _ 0 l.length c l x w (Nat.le_refl _) (by omega) hcc).mono ?_
      rintro e w' ⟨rfl, rfl⟩
      refine ⟨?_, rfl⟩
      rw [List.take_length]
      congr 2
      simp
namespace SndA
def iagg (k m m2 r l n : Int) (a : Option Addr) (N c : Nat) : Value := .agg #[.int .i64 k, .int .i64 m, .int .i64 m2, .int .i64 r, .int .i64 l, .slice a N c, .int .i64 n]
end SndA
end Go.Proofs.YtkfepcmgbmnceaaDoor
