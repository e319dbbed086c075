import Derived.Test.YtkfepcmgbmnceaaDoorWordsB
import Derived.Test.YtkfepcmgbmnceaaDoorShelf
import Derived.Sort.OwnSortedInts
import Derived.OwnWalk
import Derived.Laws.AppendOwn
import Derived.Deep.AppendLies
namespace Go.Proofs.YtkfepcmgbmnceaaDoor
open Go.RowKit ExprA Go.Sort
namespace ExprA
theorem info3 : (Tryd.prog.info? 3).map (fun i => (i.zero, i.size, i.bytes)) = some (some (.int .i64 0), 1, 8) := by kernel_rfl
def regsTo (L : List (Int × Int)) (q : Nat) : List Int := ((L.take q).filter fun p => p.1 == 2).map fun p => p.2
theorem regsTo_succ (L : List (Int × Int)) (q : Nat) (h : q < L.length) : regsTo L (q + 1) = if (L.getD q (0, 0)).1 = 2 then regsTo L q ++ [(L.getD q (0, 0)).2] else regsTo L q := by
  unfold regsTo
  rw [List.take_succ_eq_append_getElem h, List.filter_append, List.map_append]
  have e : L.getD q (0, 0) = L[q] := by simp [h]
  rw [e]
  by_cases h2 : L[q].1 = 2 <;> simp [h2]
theorem regsTo_len (L : List (Int × Int)) (q : Nat) : (regsTo L q).length ≤ q := by
  unfold regsTo
  rw [List.length_map]
  exact Nat.le_trans (List.length_filter_le _ _) (by rw [List.length_take]; omega)
def ivals (l : List Int) : List Value := l.map (Value.int .i64)
theorem ivals_snoc (l : List Int) (x : Int) : ivals (l ++ [x]) = ivals l ++ [.int .i64 x] := by unfold ivals; rw [List.map_append]; rfl
theorem iown_len {w : World} {base : Nat} {v : Value} {n : Nat} {xs : List Value} (h : w.ownsRow base 3 1 v n xs) : ∃ pa c, v = .slice pa n c := own_len h
def sortI (l : List Int) : List Int := l.mergeSort fun x y => decide (x ≤ y)
theorem sortI_len (l : List Int) : (sortI l).length = l.length := List.length_mergeSort l
theorem nin_own {w : World} {base g c : Nat} {S : List Int} (h : w.ownsRow base 3 1 (.slice (some ⟨g, 0, none⟩) S.length c) S.length (ivals S)) : NIn w (some ⟨g, 0, none⟩) S := by
  obtain ⟨_, ⟨hv, h0⟩ | ⟨g', cap, cur, hv, hg, hcur, hc1, hc2, hc3, hc4⟩⟩ := h
  · cases hv
  · simp only [Value.slice.injEq, Option.some.injEq, Addr.mk.injEq, and_true, true_and] at hv
    obtain ⟨rfl, rfl⟩ := hv
    refine .inr ⟨_, 0, rfl, (Array.getElem?_eq_some_iff.1 hcur).1, fun i hi => ?_⟩
    rw [cell_of_row w _ _ cur _ _ hcur, Nat.zero_add, ← Array.getElem?_toList]
    have h5 : (cur.toList.take (S.length * 1))[i]? = (ivals S)[i]? := by rw [hc4]
    rw [List.getElem?_take, if_pos (by omega)] at h5
    rw [h5]
    unfold ivals
    simp [hi]
/-- slices.Sort of what the call itself laid -/
theorem sort_own (base g c : Nat) (R : List Int) (w : World) (h : w.ownsRow base 3 1 (.slice (some ⟨g, 0, none⟩) R.length c) R.length (ivals R)) (hR : R.length ≤ 1000) :
    Calls Tryd.prog 28 #[.slice (some ⟨g, 0, none⟩) R.length c] w fun e w' => e = .returned (.tuple #[]) ∧ w'.ownsRow base 3 1 (.slice (some ⟨g, 0, none⟩) R.length c) R.length (ivals (sortI R)) ∧ w.grownBy w' (some g) := by
  obtain ⟨_, ⟨hv, h0⟩ | ⟨g', cap, cur, hv, hg, hcur, hc1, hc2, hc3, hc4⟩⟩ := h
  · cases hv
  · simp only [Value.slice.injEq, Option.some.injEq, Addr.mk.injEq, and_true, true_and] at hv
    obtain ⟨rfl, rfl⟩ := hv
    refine (Tryd.slices_Sort_int _ 0 _ R w (holds_of_blockI hcur (by simpa [ivals] using hc4)) (Array.getElem?_eq_some_iff.1 hcur).1 (by omega)).mono ?_
    rintro e w' ⟨rfl, n, os, rfl⟩
    exact ⟨rfl, ownsRow_sortedI (sortI_len R) hg hcur hc1 hc2 hc3, grownBy_sortedI _⟩
/-- slices.Compact of what the call itself laid, where nothing stands twice -/
theorem compact_own (base g c : Nat) (R : List Int) (w : World) (h : w.ownsRow base 3 1 (.slice (some ⟨g, 0, none⟩) R.length c) R.length (ivals R)) (hR : R.length ≤ 1000) (hC : Lib.compact R = R) :
    Calls Tryd.prog 30 #[.slice (some ⟨g, 0, none⟩) R.length c] w fun e w' => e = .returned (.slice (some ⟨g, 0, none⟩) R.length c) ∧ w'.ownsRow base 3 1 (.slice (some ⟨g, 0, none⟩) R.length c) R.length (ivals R) ∧ w.grownBy w' (some g) := by
  obtain ⟨_, ⟨hv, h0⟩ | ⟨g', cap, cur, hv, hg, hcur, hc1, hc2, hc3, hc4⟩⟩ := h
  · cases hv
  · simp only [Value.slice.injEq, Option.some.injEq, Addr.mk.injEq, and_true, true_and] at hv
    obtain ⟨rfl, rfl⟩ := hv
    refine (Tryd.slices_Compact_int _ 0 _ R w (holds_of_blockI hcur (by simpa [ivals] using hc4)) (by omega) hc1).mono ?_
    rintro e w' ⟨rfl, n, rfl⟩
    rw [hC]
    have e0 : (R ++ List.replicate (R.length - R.length) 0) = R := by simp
    rw [e0]
    refine ⟨rfl, ?_, ?_⟩
    · have := ownsRow_sortedI (w := w) (n := n) (os := #[]) (ts := R) rfl hg hcur hc1 hc2 hc3
      rw [grow_empty] at this
      exact this
    · have := grownBy_sortedI (w := w) (g := g) (n := n) (os := #[]) R.toArray
      rw [grow_empty] at this
      exact this
end ExprA
set_option maxRecDepth 100000 in
set_option maxHeartbeats 4000000 in
theorem clip_any (g n c : Nat) (hc : n ≤ c) (w : World) : Calls Tryd.prog 29 #[.slice (some ⟨g, 0, none⟩) n c] w fun e w' => e = .returned (.slice (some ⟨g, 0, none⟩) n n) ∧ w = w' := by
  have h1 : (n : Int) ≤ (c : Int) := by omega
  go_enter Tryd.func29, Tryd.ntmps29
  go_wp2_with fail
  go_ret
  exact ⟨rfl, rfl⟩
set_option maxRecDepth 100000 in
set_option maxHeartbeats 8000000 in
theorem regs_any (a : Option Addr) (L : List (Int × Int)) (c : Nat) (w : World) (h : TIn w a L) (hL : L.length ≤ 100) (hne : regsTo L L.length ≠ []) (hS : sortI (regsTo L L.length) = regsTo L L.length) (hC : Lib.compact (regsTo L L.length) = regsTo L L.length) :
    Calls Tryd.prog 24 #[.slice a L.length c] w fun e w' => ∃ g, e = .returned (.slice (some ⟨g, 0, none⟩) (regsTo L L.length).length (regsTo L L.length).length) ∧ NIn w' (some ⟨g, 0, none⟩) (regsTo L L.length) ∧ Below w.heap.size w w' := by
  have HI := Lib.hid h
  have HNE := Lib.hid hne
  have HSS := Lib.hid hS
  have HCC := Lib.hid hC
  clear h hne hS hC
  obtain ⟨i0, hi, hz0, hz1, hz2⟩ := info_parts info3
  go_enter Tryd.func24, Tryd.ntmps24
  go_wp2_with fail
  go_loopw [3, 8] (fun v x wr => ∃ q : Nat, q ≤ L.length ∧ x = .int .i64 q ∧ wr.ownsRow w.heap.size 3 1 v (regsTo L q).length (ivals (regsTo L q)) ∧ Below w.heap.size w wr) (fun _ x _ => L.length - (intOf x).toNat)
  case atStart => exact ⟨0, Nat.zero_le _, rfl, ⟨rfl, .inl ⟨rfl, rfl⟩⟩, Below.refl _ _⟩
  case round =>
    obtain ⟨q, hq, rfl, hown, hbe⟩ := hrel
    have hsz := hbe.size
    obtain ⟨pa0, pc0, rfl⟩ := own_len hown
    have HOWN := Lib.hid hown
    clear hown
    have hqi9 : (q : Int) ≤ 100 := by omega
    have hrl := regsTo_len L q
    by_cases hlt : q < L.length
    · have hdk : decide ((q : Int) < (L.length : Int)) = true := by simp; omega
      have hqi : (q : Int) < (L.length : Int) := by omega
      have HW := Lib.hid (regsTo_succ L q hlt)
      rcases HI.out.next hbe with h0 | ⟨b, o, rfl, hbl, hcc⟩
      · rw [h0] at hlt; simp at hlt
      · have hc1 := (hcc q hlt).1
        have hc2 := (hcc q hlt).2
        clear hcc
        have HB := Lib.hid hbe
        clear hbe
        generalize L.getD q (0, 0) = pp at *
        obtain ⟨tk, tv⟩ := pp
        dsimp only at hc1 hc2
        by_cases hk2 : tk = 2
        · subst hk2
          have HW2 : Hid (regsTo L (q + 1) = regsTo L q ++ [tv]) := Lib.hid (by rw [HW.out]; rfl)
          clear HW
          generalize regsTo L q = rq at *
          go_wp2_with (first
            | (at_builtin; refine wpList_append_own _ rfl (.tmp 15) (.tmp 18) 22 rfl w.heap.size 3 i0 (.int .i64 0) 1 8 Tryd.underlying22 hi hz0 hz1 hz2 rfl (by decide) _ _ _ rfl ((HOWN.out.alloc _).alloc _) ⟨wr.heap.size + 1, 0, none⟩ 1 1 [.int .i64 tv] rfl rfl (World.news_of_block (cs := #[.int .i64 tv]) (t := 3) (fr := (0, 0)) (heap_alloc2_new wr _ _)) (by simp [Value.oneCell']) (by unfold maxLen; omega) (by omega) (by simp; omega) ?_; intro v1 w4 hown1 hgrow1 hnil1; have HO4 := Lib.hid hown1; have HG4 := Lib.hid hgrow1; clear hown1 hgrow1 hnil1))
          go_roundw
          case rel =>
            refine ⟨q + 1, hlt, by go_num, ?_, ?_⟩
            · rw [HW2.out, ivals_snoc, List.length_append]; exact HO4.out
            · exact ((HB.out.alloc hsz _).alloc (by simp; omega) _).grown HG4.out (by simp; omega) (fun j hj => (HOWN.out.lt j hj).1)
          case measure => simp [intOf]; omega
        · have HW2 : Hid (regsTo L (q + 1) = regsTo L q) := Lib.hid (by rw [HW.out]; exact if_neg hk2)
          clear HW
          go_wp2_with fail
          go_roundw
          case rel =>
            refine ⟨q + 1, hlt, by go_num, ?_, ?_⟩
            · rw [HW2.out]; exact HOWN.out.alloc _
            · exact HB.out.alloc hsz _
          case measure => simp [intOf]; omega
    · have hdk : decide ((q : Int) < (L.length : Int)) = false := by simp; omega
      have e : q = L.length := by omega
      have HB := Lib.hid hbe
      have HEQ : Hid (regsTo L L.length = regsTo L q) := Lib.hid (by rw [e])
      rw [HEQ.out] at HNE HSS HCC
      clear e hbe
      have hrl100 : (regsTo L q).length ≤ 100 := by omega
      generalize regsTo L q = rq at *
      have hv : ∃ g, pa0 = some ⟨g, 0, none⟩ ∧ w.heap.size ≤ g ∧ rq.length ≤ pc0 := by
        obtain ⟨_, ⟨_, h2⟩ | ⟨g, cap, cur, hv, hg, hcur, hc1, _⟩⟩ := HOWN.out
        · exact absurd (List.length_eq_zero_iff.1 h2) HNE.out
        · simp only [Value.slice.injEq, true_and] at hv
          exact ⟨g, hv.1, hg, by omega⟩
      obtain ⟨g, rfl, hg, hcap⟩ := hv
      have HS := Lib.hid (sort_own w.heap.size g pc0 rq wr HOWN.out (by omega))
      have hglt : g < wr.heap.size := (HOWN.out.lt g rfl).2
      rw [HSS.out] at HS
      go_wp2_with fail
      refine HS.out.mono ?_
      rintro e w5 ⟨rfl, ho5, hg5⟩
      have HO5 := Lib.hid ho5
      have HB5 := Lib.hid (HB.out.grown hg5 hsz (fun j hj => by cases hj; exact hg))
      clear ho5 hg5 HS HOWN
      have hsz5 : w.heap.size ≤ w5.heap.size := HB5.out.size
      go_wp2_with fail
      refine (compact_own w.heap.size g pc0 rq w5 HO5.out (by omega) HCC.out).mono ?_
      rintro e w6 ⟨rfl, ho6, hg6⟩
      have HB6 := Lib.hid (HB5.out.grown hg6 hsz5 (fun j hj => by cases hj; exact hg))
      have HN6 := Lib.hid (nin_own ho6)
      clear ho6 hg6
      go_wp2_with fail
      refine (clip_any g rq.length pc0 hcap w6).mono ?_
      rintro e w7 ⟨rfl, rfl⟩
      go_wp2_with fail
      go_ret
      rw [HEQ.out]
      exact ⟨g, rfl, HN6.out, HB6.out⟩
end Go.Proofs.YtkfepcmgbmnceaaDoor
