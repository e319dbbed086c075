/-
  What the functions that the law reaches do, one by one: contracts. Conditions: those that each of them prints.
-/
import Derived.Test.YtgpkdhbegkhjjaaDoorMs
import Derived.Test.YtgpkdhbegkhjjaaDoorMt
import Derived.Deep.RegionHeld3
import Derived.Test.YtgpkdhbegkhjjaaDoorMr
namespace Go.Proofs.YtgpkdhbegkhjjaaDoor
open Go.RowKit RelA
attribute [local go_sem ↓] Go.wp_at_zero Go.wp_at_succ
namespace RelA
/-- forty marks in a block of their own -/
def bcells (f : Nat → Bool) : Array Value := ((List.range 40).map fun i => Value.bool (f i)).toArray
def BAt (w : World) (c : Nat) (f : Nat → Bool) : Prop := w.heap[c]? = some (.cells (bcells f) 58 (0, 0))
theorem bcells_get (f : Nat → Bool) (i : Nat) (hi : i < 40) : (bcells f)[i]? = some (.bool (f i)) := by
  unfold bcells; simp [hi]
theorem BAt.ci {w : World} {c : Nat} {f : Nat → Bool} (h : BAt w c f) (i : Nat) (hi : i < 40) : w.cell? ⟨c, i, none⟩ = some (.bool (f i)) := by
  rw [cell_of_row w c _ _ _ _ h]; exact bcells_get f i hi
theorem BAt.lt {w : World} {c : Nat} {f : Nat → Bool} (h : BAt w c f) : c < w.heap.size := block_lt_of_cell (h.ci 0 (by omega))
theorem BAt.next {w w' : World} {c : Nat} {f : Nat → Bool} (h : BAt w c f) (hb : Below w.heap.size w w') : BAt w' c f := by
  unfold BAt; rw [hb.block c h.lt]; exact h
theorem BAt.frozen {w : World} {c : Nat} {f : Nat → Bool} (h : BAt w c f) (j : Nat) : w.frozen? ⟨c, j, none⟩ = false := frozen_of_row w c j _ _ h
def updB (f : Nat → Bool) (a : Nat) (v : Bool) : Nat → Bool := fun i => if i = a then v else f i
theorem bcells_set (f : Nat → Bool) (a : Nat) (v : Bool) : (bcells f).setIfInBounds a (.bool v) = bcells (updB f a v) := by
  apply Array.ext'
  rw [Array.toList_setIfInBounds]
  unfold bcells
  apply List.ext_getElem?
  intro k
  rw [List.getElem?_set]
  by_cases e : a = k
  · subst e
    by_cases hk : a < 40
    · simp [hk, updB]
    · simp [hk]
  · have e' : ¬ k = a := fun x => e x.symm
    rw [if_neg e]
    by_cases hk : k < 40
    · simp [hk, updB, e']
    · simp [hk]
theorem BAt.set {w : World} {c : Nat} {f : Nat → Bool} (h : BAt w c f) (a : Nat) (v : Bool) : BAt (w.setCell ⟨c, a, none⟩ (.bool v)) c (updB f a v) := by
  unfold BAt
  rw [heap_setCell_same w c a (bcells f) 58 _ h, bcells_set f a v]
/-- what the list has named -/
def seenB (L : List Int) : Nat → Nat → Bool
  | 0, _ => false
  | k + 1, i => seenB L k i || decide (L.getD k 0 = i)
theorem seenB_at (L : List Int) (i k : Nat) : seenB L k i = true ↔ ∃ j, j < k ∧ L.getD j 0 = i := by
  induction k with
  | zero => exact ⟨fun h => (by cases h), fun ⟨j, h, _⟩ => (by omega)⟩
  | succ k ih =>
    show (seenB L k i || decide (L.getD k 0 = i)) = true ↔ _
    rw [Bool.or_eq_true, ih, decide_eq_true_eq]
    constructor
    · rintro (⟨j, h, e⟩ | e)
      · exact ⟨j, by omega, e⟩
      · exact ⟨k, by omega, e⟩
    · rintro ⟨j, h, e⟩
      by_cases c : j = k
      · subst c; exact .inr e
      · exact .inl ⟨j, by omega, e⟩
theorem seenB_step (L : List Int) (k m : Nat) (e : L.getD k 0 = m) : updB (seenB L k) m true = seenB L (k + 1) := by
  funext i
  show (if i = m then true else seenB L k i) = (seenB L k i || decide (L.getD k 0 = i))
  rw [e]
  by_cases c : i = m
  · subst c; simp
  · rw [if_neg c, decide_eq_false (show ¬ ((m : Nat) : Int) = i by omega), Bool.or_false]
def CosOk (g : Gr) : Prop := (g.C.length : Int) = g.locs ∧ ∀ t, t < g.C.length → CoOk g.E t (g.C.getD t Ls.zero).L
end RelA
end Go.Proofs.YtgpkdhbegkhjjaaDoor
namespace Go.Proofs.YtgpkdhbegkhjjaaDoor
open Go.RowKit RelA
attribute [local go_sem ↓] Go.wp_at_zero Go.wp_at_succ
set_option maxRecDepth 20000 in
set_option maxHeartbeats 8000000 in
theorem co_p (g : Gr) (w : World) (hes : EsIn w g.ea g.E) (hco : LsIn w g.ca g.C) (he : g.E.length ≤ 40) (hc9 : g.C.length ≤ 10) (hl : ∀ q, q < g.C.length → (g.C.getD q Ls.zero).L.length ≤ 100)
    (hpos : (g.C.length : Int) = g.locs → ∀ t : Nat, t < g.C.length → 0 < cntW g.E t g.E.length) :
    Calls Tryd.prog 15 #[g.v] w (Exact (CosOk g) w) := by
  have HWR := Lib.hid (fun loc w' => writes_p g loc w')
  have HH := Lib.hid (fun i lb loc w' (hb : Below w.heap.size w w') => has_wr g.ea g.E g.ec i lb loc w' (hes.next hb) (by omega))
  have HCN := Lib.hid (fun lb (t : Nat) w' (hb : Below w.heap.size w w') (hk : w'.cell? ⟨lb, 0, none⟩ = some (.int .i64 t)) => count_wr g.ea g.E g.ec lb t w' (hes.next hb) (by omega) hk)
  have HK : Hid ((g.C.length : Int) = g.locs → (∀ t, t < g.C.length → CoOk g.E t (g.C.getD t Ls.zero).L) → CosOk g) := Lib.hid (fun a b => ⟨a, b⟩)
  have HNL : Hid (¬ (g.C.length : Int) = g.locs → ¬ CosOk g) := Lib.hid (fun a h => a h.1)
  have HNC : Hid (∀ t, t < g.C.length → ¬ CoOk g.E t (g.C.getD t Ls.zero).L → ¬ CosOk g) := Lib.hid (fun t ht a h => a (h.2 t ht))
  obtain ⟨K, hK⟩ : ∃ K, K = CosOk g := ⟨_, rfl⟩
  rw [← hK] at HK HNL HNC ⊢
  clear hK
  have HPO := Lib.hid hpos
  have HLL := Lib.hid hl
  have HCO := Lib.hid hco
  clear hpos hl hco
  have HG0 := Lib.hid (GBox.of_alloc w g 28)
  obtain ⟨G, hG⟩ : ∃ G, G = g := ⟨_, rfl⟩
  obtain ⟨locs, ea, E, ec, ra, R, rc, ca, C, cc, ma, Rmw, mc, da, Data, dc, ta, Ctrl, tc, ia, CtrlI, ic⟩ := g
  simp only [Gr.v, gcells] at hes he hc9 HWR HH HCN HK HNL HNC HPO HLL HCO HG0 ⊢
  rw [← hG] at HG0
  clear hes
  have c0 := HG0.out.c0
  have c3 := HG0.out.c3
  rw [hG] at c0 c3
  dsimp only at c0 c3
  by_cases e0 : ¬ (C.length : Int) = locs
  · have l0 : ((C.length : Int) != locs) = true := by simp [e0]
    have HNO := Lib.hid (HNL.out e0)
    have HB : Hid (∀ o, Below w.heap.size w (w.alloc o)) := Lib.hid (fun o => (Below.refl _ _).alloc (Nat.le_refl _) o)
    go_enter Tryd.func15, Tryd.ntmps15
    go_wp2_with fail
    go_ret
    exact Exact.no (HB.out _) HNO.out
  have e0 := Classical.not_not.1 e0
  have l0 : ((C.length : Int) != locs) = false := by simp [e0]
  have HLEN := Lib.hid e0
  clear e0
  go_enter Tryd.func15, Tryd.ntmps15
  go_wp2_with fail
  obtain ⟨w1, hw1⟩ : ∃ x, x = w.alloc (Obj.cells #[.int .i64 locs, .slice ea E.length ec, .slice ra R.length rc, .slice ca C.length cc, .slice ma Rmw.length mc, .slice da Data.length dc, .slice ta Ctrl.length tc, .slice ia CtrlI.length ic] 28 (0, 0)) := ⟨_, rfl⟩
  rw [← hw1] at HG0 ⊢
  have HB1 : Hid (Below w.heap.size w w1) := Lib.hid (by rw [hw1]; exact (Below.refl _ _).alloc (Nat.le_refl _) _)
  clear hw1
  clear c0 c3 l0
  have HC1 := Lib.hid (HCO.out.next HB1.out)
  clear HCO
  go_loopw [18] (fun v wr => Below w1.heap.size w1 wr ∧ ∃ t : Nat, t ≤ C.length ∧ v = .int .i64 t ∧ Hid (∀ j, j < t → CoOk E j (C.getD j Ls.zero).L)) (fun v _ => C.length - (intOf v).toNat)
  case atStart => exact ⟨Below.refl _ _, 0, by omega, rfl, Lib.hid (fun j _ => by omega)⟩
  case round =>
    obtain ⟨hbe, t, ht, rfl, HD⟩ := hrel
    by_cases htl : t < C.length
    · have hdt : decide ((t : Int) < (C.length : Int)) = true := by simp; omega
      have hti : (t : Int) < (C.length : Int) := by omega
      have ht9 : (t : Int) < 1000 := by omega
      have HS : Hid (CoOk E t (C.getD t Ls.zero).L → ∀ j, j < t + 1 → CoOk E j (C.getD j Ls.zero).L) := Lib.hid (fun hx j b => by
        rcases Nat.lt_succ_iff_lt_or_eq.1 b with e | rfl
        · exact HD.out j e
        · exact hx)
      have HN := Lib.hid (HNC.out t htl)
      have hpos := HPO.out HLEN.out t htl
      have hl1 := HLL.out t htl
      rcases HC1.out.next hbe with h0 | ⟨cb, cx, rfl, hcbl, hccc⟩
      · rw [h0] at htl; simp at htl
      obtain ⟨s0, sN, sC⟩ := hccc t htl
      have HBE := Lib.hid hbe
      clear hccc hcbl HD hbe
      generalize C.getD t Ls.zero = l at *
      obtain ⟨la, L, lc⟩ := l
      dsimp only at s0 sN sC hl1 HS HN
      have HSN := Lib.hid sN
      clear sN sC
      have HCW := Lib.hid (cntP_wr E t E.length)
      have HMK : Hid ((∀ j, j < L.length → ∃ m : Nat, L.getD j 0 = m ∧ m < E.length ∧ (Ev.at E m).kd = 2 ∧ (Ev.at E m).lc = t) → (∀ j, j < L.length → ∀ q, q < j → L.getD q 0 ≠ L.getD j 0) → L.length = cntW E t E.length → L.getD 0 0 = t → CoOk E t L) := Lib.hid (fun a b c d => ⟨a, b, c, by rw [c]; exact hpos, d⟩)
      have HNA : Hid (¬ L.length = cntW E t E.length → ¬ CoOk E t L) := Lib.hid (fun a h => a h.len)
      have HNB : Hid (¬ L.getD 0 0 = t → ¬ CoOk E t L) := Lib.hid (fun a h => a h.fst)
      have HNE : Hid (∀ i, i < L.length → inSet E (pWr1 t) (L.getD i 0) = false → ¬ CoOk E t L) := Lib.hid (fun i hi a h => by
        obtain ⟨m, e, hm, k2, l2⟩ := h.at_ i hi
        rw [e, inSet_at hm] at a
        unfold pWr1 at a
        rw [k2, l2] at a
        simp at a)
      have HNF : Hid (∀ i, i < L.length → (∃ j, j < i ∧ L.getD j 0 = L.getD i 0) → ¬ CoOk E t L) := Lib.hid (fun i hi a h => by
        obtain ⟨j, hj, e⟩ := a
        exact h.ne i hi j hj e)
      have hcl := cntW_le E t E.length
      generalize CoOk E t L = T at *
      obtain ⟨N, hN⟩ : ∃ N, N = cntW E t E.length := ⟨_, rfl⟩
      rw [← hN] at HCW HMK HNA hpos hcl
      clear hN
      have hN9 : (N : Int) < 1000 := by omega
      obtain ⟨c0, c1, c2, c3, c4, c5, c6, c7⟩ := HG0.out.next HBE.out
      rw [hG] at c0 c1 c2 c3 c4 c5 c6 c7
      dsimp only at c0 c1 c2 c3 c4 c5 c6 c7
      go_wp2_with fail
      refine (HWR.out _ _).mono ?_
      rintro e w2 ⟨lb, rfl, hlb, hb2⟩
      have HB2 := Lib.hid (below_next HBE.out hb2)
      have HR2 := Lib.hid hb2
      have HLB := Lib.hid (cell_next hlb ((Below.refl _ _).alloc (Nat.le_refl _) (Obj.cells #[.slice ea E.length ec, .func (.func 33) #[] #[.pointer (some ⟨lb, 0, none⟩)]] 54 (0, 0))))
      clear c0 c1 c2 c3 c4 c5 c6 c7 s0 hlb hb2
      have f0 : (w2.alloc (Obj.cells #[.slice ea E.length ec, .func (.func 33) #[] #[.pointer (some ⟨lb, 0, none⟩)]] 54 (0, 0))).cell? ⟨w2.heap.size, 0, none⟩ = some (.slice ea E.length ec) := by rw [cell_of_row _ _ _ _ _ _ (heap_alloc_new _ _)]; rfl
      have f1 : (w2.alloc (Obj.cells #[.slice ea E.length ec, .func (.func 33) #[] #[.pointer (some ⟨lb, 0, none⟩)]] 54 (0, 0))).cell? ⟨w2.heap.size, 1, none⟩ = some (.func (.func 33) #[] #[.pointer (some ⟨lb, 0, none⟩)]) := by rw [cell_of_row _ _ _ _ _ _ (heap_alloc_new _ _)]; rfl
      have HB3 := Lib.hid (below_next HB2.out ((Below.refl _ _).alloc (Nat.le_refl _) (Obj.cells #[.slice ea E.length ec, .func (.func 33) #[] #[.pointer (some ⟨lb, 0, none⟩)]] 54 (0, 0))))
      have F0 := Lib.hid f0
      have F1 := Lib.hid f1
      go_wp2_with fail
      refine (HCN.out _ _ _ (below_next HB1.out HB3.out) HLB.out).mono ?_
      rintro e W3 ⟨rfl, hb3⟩
      rw [HCW.out]
      have HB4 := Lib.hid (below_next HB3.out hb3)
      have HR4 := Lib.hid (below_next (below_next HR2.out ((Below.refl _ _).alloc (Nat.le_refl _) _)) hb3)
      have HG0z := Lib.hid (cell_next F0.out hb3)
      have HG1z := Lib.hid (cell_next F1.out hb3)
      have HLZ := Lib.hid (cell_next HLB.out hb3)
      clear f0 f1 F0 F1 hb3 HLB HB3 HB2
      by_cases q0 : ¬ L.length = N
      · have m0 : ((L.length : Int) != (N : Int)) = true := by simp; omega
        have HNO := Lib.hid (HN.out (HNA.out q0))
        go_wp2_with fail
        go_ret
        exact Exact.no (below_next HB1.out HB4.out) HNO.out
      have q0 := Classical.not_not.1 q0
      have m0 : ((L.length : Int) != (N : Int)) = false := by simp; omega
      have hl0 : 0 < L.length := by omega
      have hl0i : (0 : Int) < (L.length : Int) := by omega
      rcases HSN.out.next HR4.out with h0 | ⟨lb2, lo, rfl, hlbl, hlcc⟩
      · rw [h0] at hl0; simp at hl0
      have r0 := hlcc 0 hl0
      rw [Nat.add_zero] at r0
      have HLC := Lib.hid hlcc
      clear hlcc hlbl HSN HR2 HR4 HNA
      by_cases q1 : L.getD 0 0 = t
      rotate_left
      · have m1 : (L.getD 0 0 != (t : Int)) = true := bne_iff_ne.2 q1
        have HNO := Lib.hid (HN.out (HNB.out q1))
        clear HNB HMK HNE HNF HLC HS HN q1
        generalize L.getD 0 0 = z at *
        go_wp2_with fail
        go_ret
        exact Exact.no (below_next HB1.out HB4.out) HNO.out
      have m1 : ((t : Int) != (t : Int)) = false := by simp
      rw [q1] at r0
      have HTT := Lib.hid (fun a b => HMK.out a b q0 q1)
      clear q1 HNB HMK
      go_wp2_with fail
      clear r0 m0 m1
      go_loopw [40] (fun v wi => Below W3.heap.size W3 wi ∧ ∃ i : Nat, i ≤ L.length ∧ v = .int .i64 i ∧ BAt wi W3.heap.size (seenB L i) ∧ Hid ((∀ j, j < i → ∃ m : Nat, L.getD j 0 = m ∧ m < E.length ∧ (Ev.at E m).kd = 2 ∧ (Ev.at E m).lc = t) ∧ (∀ j, j < i → ∀ q, q < j → L.getD q 0 ≠ L.getD j 0))) (fun v _ => L.length - (intOf v).toNat)
      case atStart => exact ⟨(Below.refl _ _).alloc (Nat.le_refl _) _, 0, by omega, rfl, (by unfold BAt; exact heap_alloc_new _ _), Lib.hid ⟨fun j a => by omega, fun j a => by omega⟩⟩
      case round =>
        obtain ⟨hbi, i, hi, rfl, hat, HD⟩ := hrel
        by_cases hil : i < L.length
        · have hdi : decide ((i : Int) < (L.length : Int)) = true := by simp; omega
          have hii : (i : Int) < (L.length : Int) := by omega
          have hi9 : (i : Int) < 1000 := by omega
          have r0 := cell_next (HLC.out i hil) hbi
          have f0 := cell_next HG0z.out hbi
          have f1 := cell_next HG1z.out hbi
          have HBI := Lib.hid hbi
          have HB5 := Lib.hid (below_next HB4.out hbi)
          have HHX := Lib.hid (HH.out (L.getD i 0) lb t _ (below_next HB1.out HB5.out) (cell_next HLZ.out hbi))
          have HAT := Lib.hid hat
          have HSB := Lib.hid (fun m => seenB_step L i m)
          have HSA := Lib.hid (fun m => (seenB_at L m i).1)
          have HSN : Hid (∀ m : Nat, seenB L i m = false → ∀ j, j < i → L.getD j 0 ≠ (m : Int)) := Lib.hid (fun m h j hj e => by
            rw [(seenB_at L m i).2 ⟨j, hj, e⟩] at h
            cases h)
          have HNEi := Lib.hid (HNE.out i hil)
          have HNFi := Lib.hid (HNF.out i hil)
          have HDN : Hid ((∃ m : Nat, L.getD i 0 = m ∧ m < E.length ∧ (Ev.at E m).kd = 2 ∧ (Ev.at E m).lc = t) → (∀ q, q < i → L.getD q 0 ≠ L.getD i 0) → (∀ j, j < i + 1 → ∃ m : Nat, L.getD j 0 = m ∧ m < E.length ∧ (Ev.at E m).kd = 2 ∧ (Ev.at E m).lc = t) ∧ (∀ j, j < i + 1 → ∀ q, q < j → L.getD q 0 ≠ L.getD j 0)) := Lib.hid (fun a b => ⟨fun j h => by
            rcases Nat.lt_succ_iff_lt_or_eq.1 h with e | rfl
            · exact HD.out.1 j e
            · exact a, fun j h => by
            rcases Nat.lt_succ_iff_lt_or_eq.1 h with e | rfl
            · exact HD.out.2 j e
            · exact b⟩)
          clear hat HD hbi
          obtain ⟨r, hr⟩ : ∃ r, r = L.getD i 0 := ⟨_, rfl⟩
          rw [← hr] at r0 HHX HSB HNEi HNFi HDN
          clear hr
          cases hh : inSet E (pWr1 t) r
          · have HNO := Lib.hid (HN.out (HNEi.out hh))
            rw [hh] at HHX
            clear hh HNEi HNFi HDN HSB HSA HSN
            go_wp2_with fail
            refine HHX.out.mono ?_
            rintro e w5 ⟨rfl, hb5⟩
            have HB6 := Lib.hid (below_next HB5.out hb5)
            clear hb5 r0 f0 f1
            go_wp2_with fail
            go_ret
            exact Exact.no (below_next HB1.out HB6.out) HNO.out
          · rw [hh] at HHX
            have hx0 : 0 ≤ r := Classical.byContradiction fun hx => by rw [inSet_neg hx] at hh; cases hh
            obtain ⟨m, rfl⟩ := Int.eq_ofNat_of_zero_le hx0
            have hm : m < E.length := Classical.byContradiction fun hx => by rw [inSet_out hx] at hh; cases hh
            rw [inSet_at hm] at hh
            unfold pWr1 at hh
            rw [Bool.and_eq_true, beq_iff_eq, beq_iff_eq] at hh
            have HEM := Lib.hid (fun b => HDN.out ⟨m, rfl, hm, hh.1, hh.2⟩ b)
            clear hh hx0 HNEi HDN
            have hm40 : (m : Int) < 40 := by omega
            go_wp2_with fail
            refine HHX.out.mono ?_
            rintro e w5 ⟨rfl, hb5⟩
            have HB6 := Lib.hid (below_next HB5.out hb5)
            have HI5 := Lib.hid (below_next HBI.out hb5)
            have hat5 := HAT.out.next hb5
            have hc := hat5.ci m (by omega)
            have hfz := hat5.frozen m
            have HNX := Lib.hid (hat5.set m true)
            rw [HSB.out m rfl] at HNX
            clear hb5 r0 f0 f1 hat5 HB5 HBI HAT HSB
            cases hs : seenB L i m
            · have HL := Lib.hid (HEM.out (HSN.out m hs))
              rw [hs] at hc
              clear hs HSA HSN HEM
              go_wp2_with fail
              go_roundw
              case rel => exact ⟨HI5.out.setCell (Nat.le_refl _) _, i + 1, by omega, by go_num, HNX.out, HL⟩
              case measure => simp [intOf]; omega
            · have HNO := Lib.hid (HN.out (HNFi.out (HSA.out m hs)))
              rw [hs] at hc
              clear hs HSA HSN HEM HNX
              go_wp2_with fail
              go_ret
              exact Exact.no (below_next HB1.out HB6.out) HNO.out
        · have hdi : decide ((i : Int) < (L.length : Int)) = false := by simp; omega
          have HL := Lib.hid (HS.out (HTT.out (fun j h => HD.out.1 j (by omega)) (fun j h => HD.out.2 j (by omega))))
          have HBE2 := Lib.hid (below_next HB4.out hbi)
          clear hat HD hbi
          go_wp2_with fail
          go_roundw
          case rel => exact ⟨HBE2.out, t + 1, by omega, by go_num, HL⟩
          case measure => simp [intOf]; omega
    · have hdt : decide ((t : Int) < (C.length : Int)) = false := by simp; omega
      have HL := Lib.hid (HK.out HLEN.out (fun j a => HD.out j (by omega)))
      have HB := Lib.hid (below_next HB1.out hbe)
      clear hbe
      go_wp2_with fail
      go_ret
      exact Exact.yes HB.out HL.out
end Go.Proofs.YtgpkdhbegkhjjaaDoor
namespace Go.Proofs.YtgpkdhbegkhjjaaDoor
open Go.RowKit RelA
attribute [local go_sem ↓] Go.wp_at_zero Go.wp_at_succ
attribute [local irreducible] wpO Go.wpAnyH
namespace RelA
theorem rmws_not {E : List Ev} {L : List (Int × Int)} (k : Nat) (hk : k < L.length) (h : ¬ RmwOk E (L.getD k (0, 0))) : ¬ RmwsOk E L := fun x => h (x.at_ k hk)
end RelA
set_option maxRecDepth 20000 in
set_option maxHeartbeats 8000000 in
theorem rmw_p (g : Gr) (w : World) (hes : EsIn w g.ea g.E) (he : g.E.length ≤ 40) (h : PIn w g.ma g.Rmw g.mc) (hl : g.Rmw.length ≤ 400) :
    Calls Tryd.prog 16 #[g.v] w (Exact (RmwsOk g.E g.Rmw) w) := by
  have HRI := Lib.hid (fun w' (hb : Below w.heap.size w w') => rising_p g.ma g.Rmw g.mc w' (h.next hb) hl)
  have HRD := Lib.hid (fun w' => reads_p g w')
  have HWR := Lib.hid (fun loc w' => writes_p g loc w')
  have HHR := Lib.hid (fun i w' (hb : Below w.heap.size w w') => has_rd g.ea g.E g.ec i w' (hes.next hb) (by omega))
  have HHW := Lib.hid (fun i lb loc w' (hb : Below w.heap.size w w') => has_wr g.ea g.E g.ec i lb loc w' (hes.next hb) (by omega))
  have HCN := Lib.hid (fun w' (hb : Below w.heap.size w w') => count_xm g.ea g.E g.ec w' (hes.next hb) (by omega))
  have HG0 := Lib.hid (GBox.of_alloc w g 28)
  obtain ⟨G, hG⟩ : ∃ G, G = g := ⟨_, rfl⟩
  obtain ⟨locs, ea, E, ec, ra, R, rc, ca, C, cc, ma, Rmw, mc, da, Data, dc, ta, Ctrl, tc, ia, CtrlI, ic⟩ := g
  simp only [Gr.v, gcells] at hes he h hl HRI HRD HWR HHR HHW HCN HG0 ⊢
  rw [← hG] at HG0
  have HI := Lib.hid h
  have HES := Lib.hid hes
  clear h hes
  go_enter Tryd.func16, Tryd.ntmps16
  go_wp2_with fail
  obtain ⟨w1, hw1⟩ : ∃ x, x = w.alloc (Obj.cells #[.int .i64 locs, .slice ea E.length ec, .slice ra R.length rc, .slice ca C.length cc, .slice ma Rmw.length mc, .slice da Data.length dc, .slice ta Ctrl.length tc, .slice ia CtrlI.length ic] 28 (0, 0)) := ⟨_, rfl⟩
  rw [← hw1] at HG0 ⊢
  have HB1 : Hid (Below w.heap.size w w1) := Lib.hid (by rw [hw1]; exact (Below.refl _ _).alloc (Nat.le_refl _) _)
  clear hw1
  have HI1 := Lib.hid (HI.out.next HB1.out)
  have HE1 := Lib.hid (HES.out.next HB1.out)
  clear HI HES
  refine (HRI.out _ HB1.out).mono ?_
  rintro e w2 ⟨x, rfl, hx, hb2⟩
  have HX := Lib.hid hx
  have HB2 := Lib.hid hb2
  have HB2w := Lib.hid (below_next HB1.out hb2)
  obtain ⟨c0, c1, c2, c3, c4, c5, c6, c7⟩ := HG0.out.next hb2
  rw [hG] at c0 c1 c2 c3 c4 c5 c6 c7
  dsimp only at c0 c1 c2 c3 c4 c5 c6 c7
  clear hx hb2
  cases x
  · have HNO : Hid (¬ RmwsOk E Rmw) := Lib.hid (fun h => by have := HX.out.2 h.up; cases this)
    go_wp2_with fail
    go_ret
    exact Exact.no HB2w.out HNO.out
  have HUP := Lib.hid (HX.out.1 rfl)
  clear HX
  go_wp2_with fail
  clear c0 c1 c2 c3 c4 c5 c6 c7
  go_loopw [15] (fun v wr => Below w1.heap.size w1 wr ∧ ∃ k : Nat, k ≤ Rmw.length ∧ v = .int .i64 k ∧ Hid (∀ j, j < k → RmwOk E (Rmw.getD j (0, 0)))) (fun v _ => Rmw.length - (intOf v).toNat)
  case atStart => exact ⟨HB2.out, 0, by omega, rfl, Lib.hid (fun j _ => by omega)⟩
  case round =>
    obtain ⟨hbe, k, hk, rfl, HD⟩ := hrel
    clear HB2 HB2w
    by_cases hlt : k < Rmw.length
    · have hdk : decide ((k : Int) < (Rmw.length : Int)) = true := by simp; omega
      have hki : (k : Int) < (Rmw.length : Int) := by omega
      have hk9 : (k : Int) < 1000 := by omega
      have HS : Hid (RmwOk E (Rmw.getD k (0, 0)) → ∀ j, j < k + 1 → RmwOk E (Rmw.getD j (0, 0))) := Lib.hid (fun hx j b => by
        rcases Nat.lt_succ_iff_lt_or_eq.1 b with e | rfl
        · exact HD.out j e
        · exact hx)
      have HN : Hid (¬ RmwOk E (Rmw.getD k (0, 0)) → ¬ RmwsOk E Rmw) := Lib.hid (fun hx => rmws_not k hlt hx)
      rcases HI1.out.next hbe with ⟨_, h0, _⟩ | ⟨_, _, h0⟩ | ⟨b, o, rfl, hbl, hcc⟩
      · rw [h0] at hlt; simp at hlt
      · rw [h0] at hlt; simp at hlt
      obtain ⟨p0, p1⟩ := hcc k hlt
      have HBE := Lib.hid hbe
      clear hcc HD hbl hbe
      generalize Rmw.getD k (0, 0) = p at *
      obtain ⟨x, y⟩ := p
      dsimp only at p0 p1
      have HW : Hid (∀ o, Below w1.heap.size w1 (wr.alloc o)) := Lib.hid (fun o => below_next HBE.out ((Below.refl _ _).alloc (Nat.le_refl _) o))
      go_wp2_with fail
      obtain ⟨c0, c1, c2, c3, c4, c5, c6, c7⟩ := HG0.out.next (HW.out (Obj.cells #[.int .i64 x, .int .i64 y] 40 (0, 0)))
      rw [hG] at c0 c1 c2 c3 c4 c5 c6 c7
      dsimp only at c0 c1 c2 c3 c4 c5 c6 c7
      have pb0 : (wr.alloc (Obj.cells #[.int .i64 x, .int .i64 y] 40 (0, 0))).cell? ⟨wr.heap.size, 0, none⟩ = some (.int .i64 x) := by rw [cell_of_row _ _ _ _ _ _ (heap_alloc_new _ _)]; rfl
      have pb1 : (wr.alloc (Obj.cells #[.int .i64 x, .int .i64 y] 40 (0, 0))).cell? ⟨wr.heap.size, 1, none⟩ = some (.int .i64 y) := by rw [cell_of_row _ _ _ _ _ _ (heap_alloc_new _ _)]; rfl
      have hBl : Bl w1 (wr.alloc (Obj.cells #[.int .i64 x, .int .i64 y] 40 (0, 0))) := ⟨HW.out _⟩
      clear p0 p1 HBE HW
      generalize wr.alloc (Obj.cells #[.int .i64 x, .int .i64 y] 40 (0, 0)) = W0 at *
      have HHX := Lib.hid (fun w' (hb : Below w1.heap.size w1 w') => HHR.out x w' (below_next HB1.out hb))
      cases hh : inSet E pRd1 x
      · rw [hh] at HHX
        have HNO := Lib.hid (HN.out (by
          rintro ⟨m, n, e, hnm, hn, _, k1, _⟩
          obtain ⟨rfl, rfl⟩ := Prod.mk.inj e
          rw [inSet_at (by omega)] at hh
          unfold pRd1 at hh
          rw [k1] at hh
          exact absurd hh (by decide)))
        clear hh HS HN
        go_region_held3 (fun W => W.cell? ⟨w.heap.size, 0, none⟩ = some (.int .i64 locs) ∧ W.cell? ⟨w.heap.size, 1, none⟩ = some (.slice ea E.length ec) ∧ W.cell? ⟨w.heap.size, 2, none⟩ = some (.slice ra R.length rc) ∧ W.cell? ⟨w.heap.size, 3, none⟩ = some (.slice ca C.length cc) ∧ W.cell? ⟨w.heap.size, 4, none⟩ = some (.slice (some ⟨b, o, none⟩) Rmw.length mc) ∧ W.cell? ⟨w.heap.size, 5, none⟩ = some (.slice da Data.length dc) ∧ W.cell? ⟨w.heap.size, 6, none⟩ = some (.slice ta Ctrl.length tc) ∧ W.cell? ⟨w.heap.size, 7, none⟩ = some (.slice ia CtrlI.length ic) ∧ W.cell? ⟨wr.heap.size, 0, none⟩ = some (.int .i64 x) ∧ W.cell? ⟨wr.heap.size, 1, none⟩ = some (.int .i64 y) ∧ Bl w1 W)
          (first | (go_split_ands; exact ⟨cell_next ‹_› hbe, cell_next ‹_› hbe, cell_next ‹_› hbe, cell_next ‹_› hbe, cell_next ‹_› hbe, cell_next ‹_› hbe, cell_next ‹_› hbe, cell_next ‹_› hbe, cell_next ‹_› hbe, cell_next ‹_› hbe, ⟨below_next (Bl.out ‹_›) hbe⟩⟩) | (go_split_ands; exact ⟨cell_next ‹_› (Below.refl _ _).drew, cell_next ‹_› (Below.refl _ _).drew, cell_next ‹_› (Below.refl _ _).drew, cell_next ‹_› (Below.refl _ _).drew, cell_next ‹_› (Below.refl _ _).drew, cell_next ‹_› (Below.refl _ _).drew, cell_next ‹_› (Below.refl _ _).drew, cell_next ‹_› (Below.refl _ _).drew, cell_next ‹_› (Below.refl _ _).drew, cell_next ‹_› (Below.refl _ _).drew, ⟨(Bl.out ‹_›).drew⟩⟩) | (go_split_ands; exact ⟨cell_next ‹_› ((Below.refl _ _).alloc (Nat.le_refl _) _), cell_next ‹_› ((Below.refl _ _).alloc (Nat.le_refl _) _), cell_next ‹_› ((Below.refl _ _).alloc (Nat.le_refl _) _), cell_next ‹_› ((Below.refl _ _).alloc (Nat.le_refl _) _), cell_next ‹_› ((Below.refl _ _).alloc (Nat.le_refl _) _), cell_next ‹_› ((Below.refl _ _).alloc (Nat.le_refl _) _), cell_next ‹_› ((Below.refl _ _).alloc (Nat.le_refl _) _), cell_next ‹_› ((Below.refl _ _).alloc (Nat.le_refl _) _), cell_next ‹_› ((Below.refl _ _).alloc (Nat.le_refl _) _), cell_next ‹_› ((Below.refl _ _).alloc (Nat.le_refl _) _), ⟨below_next (Bl.out ‹_›) ((Below.refl _ _).alloc (Nat.le_refl _) _)⟩⟩) | fail "keep")
          (first | (go_at_call 25; have hgd := HA1; clear hgd; refine (HHX.out _ (Bl.out (by go_split_ands; assumption))).mono ?_; rintro en wn ⟨rfl, hbe⟩) | (go_at_call 28; refine (HRD.out _).mono ?_; rintro en wn ⟨rfl, hbe⟩; have HA1 := Lib.hid True.intro))
        go_split_ands
        have HB := Lib.hid (Bl.out ‹Bl w1 _›)
        go_wp2_with fail
        go_ret
        exact Exact.no (below_next HB1.out HB.out) HNO.out
      rw [hh] at HHX
      have hx0 : 0 ≤ x := Classical.byContradiction fun hx => by rw [inSet_neg hx] at hh; cases hh
      obtain ⟨m, rfl⟩ := Int.eq_ofNat_of_zero_le hx0
      have hm : m < E.length := Classical.byContradiction fun hx => by rw [inSet_out hx] at hh; cases hh
      rw [inSet_at hm] at hh
      have hk1 : (Ev.at E m).kd = 1 := by unfold pRd1 at hh; simpa using hh
      clear hh hx0
      go_region_held3 (fun W => W.cell? ⟨w.heap.size, 0, none⟩ = some (.int .i64 locs) ∧ W.cell? ⟨w.heap.size, 1, none⟩ = some (.slice ea E.length ec) ∧ W.cell? ⟨w.heap.size, 2, none⟩ = some (.slice ra R.length rc) ∧ W.cell? ⟨w.heap.size, 3, none⟩ = some (.slice ca C.length cc) ∧ W.cell? ⟨w.heap.size, 4, none⟩ = some (.slice (some ⟨b, o, none⟩) Rmw.length mc) ∧ W.cell? ⟨w.heap.size, 5, none⟩ = some (.slice da Data.length dc) ∧ W.cell? ⟨w.heap.size, 6, none⟩ = some (.slice ta Ctrl.length tc) ∧ W.cell? ⟨w.heap.size, 7, none⟩ = some (.slice ia CtrlI.length ic) ∧ W.cell? ⟨wr.heap.size, 0, none⟩ = some (.int .i64 (m : Int)) ∧ W.cell? ⟨wr.heap.size, 1, none⟩ = some (.int .i64 y) ∧ Bl w1 W)
        (first | (go_split_ands; exact ⟨cell_next ‹_› hbe, cell_next ‹_› hbe, cell_next ‹_› hbe, cell_next ‹_› hbe, cell_next ‹_› hbe, cell_next ‹_› hbe, cell_next ‹_› hbe, cell_next ‹_› hbe, cell_next ‹_› hbe, cell_next ‹_› hbe, ⟨below_next (Bl.out ‹_›) hbe⟩⟩) | (go_split_ands; exact ⟨cell_next ‹_› (Below.refl _ _).drew, cell_next ‹_› (Below.refl _ _).drew, cell_next ‹_› (Below.refl _ _).drew, cell_next ‹_› (Below.refl _ _).drew, cell_next ‹_› (Below.refl _ _).drew, cell_next ‹_› (Below.refl _ _).drew, cell_next ‹_› (Below.refl _ _).drew, cell_next ‹_› (Below.refl _ _).drew, cell_next ‹_› (Below.refl _ _).drew, cell_next ‹_› (Below.refl _ _).drew, ⟨(Bl.out ‹_›).drew⟩⟩) | (go_split_ands; exact ⟨cell_next ‹_› ((Below.refl _ _).alloc (Nat.le_refl _) _), cell_next ‹_› ((Below.refl _ _).alloc (Nat.le_refl _) _), cell_next ‹_› ((Below.refl _ _).alloc (Nat.le_refl _) _), cell_next ‹_› ((Below.refl _ _).alloc (Nat.le_refl _) _), cell_next ‹_› ((Below.refl _ _).alloc (Nat.le_refl _) _), cell_next ‹_› ((Below.refl _ _).alloc (Nat.le_refl _) _), cell_next ‹_› ((Below.refl _ _).alloc (Nat.le_refl _) _), cell_next ‹_› ((Below.refl _ _).alloc (Nat.le_refl _) _), cell_next ‹_› ((Below.refl _ _).alloc (Nat.le_refl _) _), cell_next ‹_› ((Below.refl _ _).alloc (Nat.le_refl _) _), ⟨below_next (Bl.out ‹_›) ((Below.refl _ _).alloc (Nat.le_refl _) _)⟩⟩) | fail "keep")
        (first | (go_at_call 25; have hgd := HA1; clear hgd; refine (HHX.out _ (Bl.out (by go_split_ands; assumption))).mono ?_; rintro en wn ⟨rfl, hbe⟩) | (go_at_call 28; refine (HRD.out _).mono ?_; rintro en wn ⟨rfl, hbe⟩; have HA1 := Lib.hid True.intro))
      go_split_ands
      have HB := Lib.hid (Bl.out ‹Bl w1 _›)
      clear c0 c1 c2 c3 c4 c5 c6 c7 pb0 pb1 hBl HHX HA1
      have pb0 : wn.cell? ⟨wr.heap.size, 0, none⟩ = some (.int .i64 (m : Int)) := by assumption
      have pb1 : wn.cell? ⟨wr.heap.size, 1, none⟩ = some (.int .i64 y) := by assumption
      have HGB : Hid (GBox wn w.heap.size G) := Lib.hid (by rw [hG]; exact ⟨‹_›, ‹_›, ‹_›, ‹_›, ‹_›, ‹_›, ‹_›, ‹_›⟩)
      rcases HE1.out.next HB.out with h0 | ⟨eb, eo, rfl, hebl, hecc⟩
      · rw [h0] at hm; simp at hm
      obtain ⟨d0, d1, d2, d3, d4, d5⟩ := hecc m hm
      clear hecc hebl
      change _ = some (Value.int _ (Ev.at E m).th) at d0
      change _ = some (Value.int _ (Ev.at E m).kd) at d1
      change _ = some (Value.int _ (Ev.at E m).md) at d2
      change _ = some (Value.int _ (Ev.at E m).lc) at d3
      change _ = some (Value.int _ (Ev.at E m).vl) at d4
      change _ = some (Value.bool (Ev.at E m).ex) at d5
      have hmi : (m : Int) < (E.length : Int) := by omega
      have HOK : Hid (∀ n : Nat, y = n → n = m + 1 → n < E.length → (Ev.at E m).th = (Ev.at E n).th → (Ev.at E n).kd = 2 → (Ev.at E m).lc = (Ev.at E n).lc → (Ev.at E m).ex = true → (Ev.at E n).ex = true → RmwOk E ((m : Int), y)) := Lib.hid (fun n a b c d e f g h => ⟨m, n, by rw [a], b, c, d, hk1, e, f, g, h⟩)
      have HNK : Hid (RmwOk E ((m : Int), y) → ∃ n : Nat, y = n ∧ n = m + 1 ∧ n < E.length ∧ (Ev.at E m).th = (Ev.at E n).th ∧ (Ev.at E n).kd = 2 ∧ (Ev.at E m).lc = (Ev.at E n).lc ∧ (Ev.at E m).ex = true ∧ (Ev.at E n).ex = true) := Lib.hid (by
        rintro ⟨m2, n, e, a, b, c, _, d, f, g, h⟩
        obtain ⟨e1, e2⟩ := Prod.mk.inj e
        obtain rfl : m = m2 := by omega
        exact ⟨n, e2, a, b, c, d, f, g, h⟩)
      generalize RmwOk E ((m : Int), y) = T at *
      rw [hk1] at d1
      clear hk1
      generalize Ev.at E m = ev at *
      obtain ⟨x0, x1, x2, x3, x4, x5⟩ := ev
      dsimp only at d0 d1 d2 d3 d4 d5 HOK HNK
      have hw1 : IntKind.i64.wrap ((m : Int) + 1) = (m : Int) + 1 := IntWalk.i64_in _ (by omega)
      have HW : Hid (∀ o, Below w1.heap.size w1 (wn.alloc o)) := Lib.hid (fun o => below_next HB.out ((Below.refl _ _).alloc (Nat.le_refl _) o))
      obtain ⟨c0, c1, c2, c3, c4, c5, c6, c7⟩ := HGB.out
      rw [hG] at c0 c1 c2 c3 c4 c5 c6 c7
      dsimp only at c0 c1 c2 c3 c4 c5 c6 c7
      have pz0 := cell_next pb0 ((Below.refl _ _).alloc (Nat.le_refl _) (Obj.cells #[.int .i64 x0, .int .i64 1, .int .i64 x2, .int .i64 x3, .int .i64 x4, .bool x5] 30 (0, 0)))
      have pz1 := cell_next pb1 ((Below.refl _ _).alloc (Nat.le_refl _) (Obj.cells #[.int .i64 x0, .int .i64 1, .int .i64 x2, .int .i64 x3, .int .i64 x4, .bool x5] 30 (0, 0)))
      go_wp2_with fail
      clear c0 c1 c2 c3 c4 c5 c6 c7 d0 d1 d2 d3 d4 d5 pb0 pb1
      obtain ⟨c0, c1, c2, c3, c4, c5, c6, c7⟩ := HGB.out.next ((Below.refl _ _).alloc (Nat.le_refl _) (Obj.cells #[.int .i64 x0, .int .i64 1, .int .i64 x2, .int .i64 x3, .int .i64 x4, .bool x5] 30 (0, 0)))
      rw [hG] at c0 c1 c2 c3 c4 c5 c6 c7
      dsimp only at c0 c1 c2 c3 c4 c5 c6 c7
      have rb0 : (wn.alloc (Obj.cells #[.int .i64 x0, .int .i64 1, .int .i64 x2, .int .i64 x3, .int .i64 x4, .bool x5] 30 (0, 0))).cell? ⟨wn.heap.size, 0, none⟩ = some (.int .i64 x0) := by rw [cell_of_row _ _ _ _ _ _ (heap_alloc_new _ _)]; rfl
      have rb3 : (wn.alloc (Obj.cells #[.int .i64 x0, .int .i64 1, .int .i64 x2, .int .i64 x3, .int .i64 x4, .bool x5] 30 (0, 0))).cell? ⟨wn.heap.size, 3, none⟩ = some (.int .i64 x3) := by rw [cell_of_row _ _ _ _ _ _ (heap_alloc_new _ _)]; rfl
      have rb5 : (wn.alloc (Obj.cells #[.int .i64 x0, .int .i64 1, .int .i64 x2, .int .i64 x3, .int .i64 x4, .bool x5] 30 (0, 0))).cell? ⟨wn.heap.size, 5, none⟩ = some (.bool x5) := by rw [cell_of_row _ _ _ _ _ _ (heap_alloc_new _ _)]; rfl
      have HBW := Lib.hid (HW.out (Obj.cells #[.int .i64 x0, .int .i64 1, .int .i64 x2, .int .i64 x3, .int .i64 x4, .bool x5] 30 (0, 0)))
      clear HW HGB HB
      generalize wn.alloc (Obj.cells #[.int .i64 x0, .int .i64 1, .int .i64 x2, .int .i64 x3, .int .i64 x4, .bool x5] 30 (0, 0)) = W1 at *
      by_cases e3 : y = (m : Int) + 1
      rotate_left
      · have l3 : (y != (m : Int) + 1) = true := bne_iff_ne.2 e3
        have HNO := Lib.hid (HN.out (fun ht => by obtain ⟨n, a, c, _⟩ := HNK.out ht; omega))
        clear HOK HNK HS HN
        refine wo_start (S := (fun W => W.cell? ⟨w.heap.size, 0, none⟩ = some (.int .i64 locs) ∧ W.cell? ⟨w.heap.size, 1, none⟩ = some (.slice (some ⟨eb, eo, none⟩) E.length ec) ∧ W.cell? ⟨w.heap.size, 2, none⟩ = some (.slice ra R.length rc) ∧ W.cell? ⟨w.heap.size, 3, none⟩ = some (.slice ca C.length cc) ∧ W.cell? ⟨w.heap.size, 4, none⟩ = some (.slice (some ⟨b, o, none⟩) Rmw.length mc) ∧ W.cell? ⟨w.heap.size, 5, none⟩ = some (.slice da Data.length dc) ∧ W.cell? ⟨w.heap.size, 6, none⟩ = some (.slice ta Ctrl.length tc) ∧ W.cell? ⟨w.heap.size, 7, none⟩ = some (.slice ia CtrlI.length ic) ∧ W.cell? ⟨wr.heap.size, 0, none⟩ = some (.int .i64 (m : Int)) ∧ W.cell? ⟨wr.heap.size, 1, none⟩ = some (.int .i64 y) ∧ W.cell? ⟨wn.heap.size, 0, none⟩ = some (.int .i64 x0) ∧ W.cell? ⟨wn.heap.size, 3, none⟩ = some (.int .i64 x3) ∧ W.cell? ⟨wn.heap.size, 5, none⟩ = some (.bool x5) ∧ Bl w1 W)) [0, 1, 2, 3, 4, 5, 6, 7, 8, 9, 11, 12, 10, 13, 14, 15] 16 [false, false, false, false, false, false, false, false, false, false, false, false, false, false, false, false] (by kernel_rfl) (by rfl) (by rfl) ⟨c0, c1, c2, c3, c4, c5, c6, c7, pz0, pz1, rb0, rb3, rb5, ⟨HBW.out.drew⟩⟩ (fun hHeld => ?_)
        repeat (first | (refine wo_skip rfl (by kernel_rfl) (by rfl) (fun _ _ _ h => h) (by assumption) ?_; simp only [Act.put, List.getElem_toArray, List.getElem_cons_succ, List.getElem_cons_zero, List.setIfInBounds_toArray, List.set_cons_zero, List.set_cons_succ]) | (refine wo_do rfl (by kernel_rfl) (by rfl) (fun _ _ _ _ h => h) (by assumption) ?_; apply Exists.intro; refine ⟨fun W hW => ?_, ?_⟩; ((try dsimp only at hW); (try simp only [List.getElem_toArray, List.getElem_cons_succ, List.getElem_cons_zero]); go_simp; first | done | with_reducible rfl); simp only [Act.put, List.getElem_toArray, List.getElem_cons_succ, List.getElem_cons_zero, List.setIfInBounds_toArray, List.set_cons_zero, List.set_cons_succ]))
        refine wo_done (by kernel_rfl) ?_
        obtain ⟨c0, c1, c2, c3, c4, c5, c6, c7, pz0, pz1, rb0, rb3, rb5, hBl⟩ := hHeld
        have HB := Lib.hid hBl.out
        go_wp2_with fail
        go_ret
        exact Exact.no (below_next HB1.out HB.out) HNO.out
      obtain ⟨n, rfl⟩ := Int.eq_ofNat_of_zero_le (show 0 ≤ y by omega)
      have hnm : n = m + 1 := by omega
      have l3 : ((n : Int) != (m : Int) + 1) = false := by simp [e3]
      have HNM := Lib.hid hnm
      clear e3 hnm
      have HHX := Lib.hid (fun lb (w' : World) (hb : Below w1.heap.size w1 w') => HHW.out n lb x3 w' (below_next HB1.out hb))
      cases hh : inSet E (pWr1 x3) n
      · have HNO := Lib.hid (HN.out (fun ht => by
          obtain ⟨n2, a, _, c, _, k2, l2, _⟩ := HNK.out ht
          obtain rfl : n = n2 := by omega
          rw [inSet_at c] at hh
          unfold pWr1 at hh
          rw [k2, ← l2] at hh
          simp at hh))
        rw [hh] at HHX
        clear hh HOK HNK HS HN
        refine wo_start (S := (fun W => W.cell? ⟨w.heap.size, 0, none⟩ = some (.int .i64 locs) ∧ W.cell? ⟨w.heap.size, 1, none⟩ = some (.slice (some ⟨eb, eo, none⟩) E.length ec) ∧ W.cell? ⟨w.heap.size, 2, none⟩ = some (.slice ra R.length rc) ∧ W.cell? ⟨w.heap.size, 3, none⟩ = some (.slice ca C.length cc) ∧ W.cell? ⟨w.heap.size, 4, none⟩ = some (.slice (some ⟨b, o, none⟩) Rmw.length mc) ∧ W.cell? ⟨w.heap.size, 5, none⟩ = some (.slice da Data.length dc) ∧ W.cell? ⟨w.heap.size, 6, none⟩ = some (.slice ta Ctrl.length tc) ∧ W.cell? ⟨w.heap.size, 7, none⟩ = some (.slice ia CtrlI.length ic) ∧ W.cell? ⟨wr.heap.size, 0, none⟩ = some (.int .i64 (m : Int)) ∧ W.cell? ⟨wr.heap.size, 1, none⟩ = some (.int .i64 (n : Int)) ∧ W.cell? ⟨wn.heap.size, 0, none⟩ = some (.int .i64 x0) ∧ W.cell? ⟨wn.heap.size, 3, none⟩ = some (.int .i64 x3) ∧ W.cell? ⟨wn.heap.size, 5, none⟩ = some (.bool x5) ∧ Bl w1 W)) [0, 1, 2, 3, 4, 5, 6, 7, 8, 9, 11, 12, 10, 13, 14, 15] 16 [false, false, false, false, false, false, false, false, false, false, false, false, false, false, false, false] (by kernel_rfl) (by rfl) (by rfl) ⟨c0, c1, c2, c3, c4, c5, c6, c7, pz0, pz1, rb0, rb3, rb5, ⟨HBW.out.drew⟩⟩ (fun hHeld => ?_)
        repeat (first | (refine wo_skip rfl (by kernel_rfl) (by rfl) (fun _ _ _ h => h) (by assumption) ?_; simp only [Act.put, List.getElem_toArray, List.getElem_cons_succ, List.getElem_cons_zero, List.setIfInBounds_toArray, List.set_cons_zero, List.set_cons_succ]) | (refine wo_do rfl (by kernel_rfl) (by rfl) (fun _ _ _ _ h => h) (by assumption) ?_; apply Exists.intro; refine ⟨fun W hW => ?_, ?_⟩; ((try dsimp only at hW); (try simp only [List.getElem_toArray, List.getElem_cons_succ, List.getElem_cons_zero]); go_simp; first | done | with_reducible rfl); simp only [Act.put, List.getElem_toArray, List.getElem_cons_succ, List.getElem_cons_zero, List.setIfInBounds_toArray, List.set_cons_zero, List.set_cons_succ]))
        refine wo_call rfl (by kernel_rfl) (by rfl) (fun K hK => ?_)
        try simp only [List.getElem_toArray, List.getElem_cons_succ, List.getElem_cons_zero]
        go_simp
        obtain ⟨c0, c1, c2, c3, c4, c5, c6, c7, pz0, pz1, rb0, rb3, rb5, hBl⟩ := hHeld
        go_at_call 24
        refine (HWR.out _ _).mono ?_
        rintro en wq ⟨lb, rfl, hlb, hbe⟩
        dsimp only
        refine hK.out _ _ ⟨cell_next c0 hbe, cell_next c1 hbe, cell_next c2 hbe, cell_next c3 hbe, cell_next c4 hbe, cell_next c5 hbe, cell_next c6 hbe, cell_next c7 hbe, cell_next pz0 hbe, cell_next pz1 hbe, cell_next rb0 hbe, cell_next rb3 hbe, cell_next rb5 hbe, ⟨below_next hBl.out hbe⟩⟩ (fun hHeld => ?_)
        clear hK K hbe c0 c1 c2 c3 c4 c5 c6 c7 pz0 pz1 rb0 rb3 rb5 hBl
        simp only [List.setIfInBounds_toArray, List.set_cons_zero, List.set_cons_succ]
        repeat (first | (refine wo_skip rfl (by kernel_rfl) (by rfl) (fun _ _ _ h => h) (by assumption) ?_; simp only [Act.put, List.getElem_toArray, List.getElem_cons_succ, List.getElem_cons_zero, List.setIfInBounds_toArray, List.set_cons_zero, List.set_cons_succ]) | (refine wo_do rfl (by kernel_rfl) (by rfl) (fun _ _ _ _ h => h) (by assumption) ?_; apply Exists.intro; refine ⟨fun W hW => ?_, ?_⟩; ((try dsimp only at hW); (try simp only [List.getElem_toArray, List.getElem_cons_succ, List.getElem_cons_zero]); go_simp; first | done | with_reducible rfl); simp only [Act.put, List.getElem_toArray, List.getElem_cons_succ, List.getElem_cons_zero, List.setIfInBounds_toArray, List.set_cons_zero, List.set_cons_succ]))
        refine wo_call rfl (by kernel_rfl) (by rfl) (fun K hK => ?_)
        try simp only [List.getElem_toArray, List.getElem_cons_succ, List.getElem_cons_zero]
        go_simp
        obtain ⟨c0, c1, c2, c3, c4, c5, c6, c7, pz0, pz1, rb0, rb3, rb5, hBl⟩ := hHeld
        go_at_call 25
        refine (HHX.out _ _ hBl.out hlb).mono ?_
        clear hlb
        rintro en wq ⟨rfl, hbe⟩
        dsimp only
        refine hK.out _ _ ⟨cell_next c0 hbe, cell_next c1 hbe, cell_next c2 hbe, cell_next c3 hbe, cell_next c4 hbe, cell_next c5 hbe, cell_next c6 hbe, cell_next c7 hbe, cell_next pz0 hbe, cell_next pz1 hbe, cell_next rb0 hbe, cell_next rb3 hbe, cell_next rb5 hbe, ⟨below_next hBl.out hbe⟩⟩ (fun hHeld => ?_)
        clear hK K hbe c0 c1 c2 c3 c4 c5 c6 c7 pz0 pz1 rb0 rb3 rb5 hBl
        simp only [List.setIfInBounds_toArray, List.set_cons_zero, List.set_cons_succ]
        repeat (first | (refine wo_skip rfl (by kernel_rfl) (by rfl) (fun _ _ _ h => h) (by assumption) ?_; simp only [Act.put, List.getElem_toArray, List.getElem_cons_succ, List.getElem_cons_zero, List.setIfInBounds_toArray, List.set_cons_zero, List.set_cons_succ]) | (refine wo_do rfl (by kernel_rfl) (by rfl) (fun _ _ _ _ h => h) (by assumption) ?_; apply Exists.intro; refine ⟨fun W hW => ?_, ?_⟩; ((try dsimp only at hW); (try simp only [List.getElem_toArray, List.getElem_cons_succ, List.getElem_cons_zero]); go_simp; first | done | with_reducible rfl); simp only [Act.put, List.getElem_toArray, List.getElem_cons_succ, List.getElem_cons_zero, List.setIfInBounds_toArray, List.set_cons_zero, List.set_cons_succ]))
        refine wo_done (by kernel_rfl) ?_
        obtain ⟨c0, c1, c2, c3, c4, c5, c6, c7, pz0, pz1, rb0, rb3, rb5, hBl⟩ := hHeld
        have HB := Lib.hid hBl.out
        go_wp2_with fail
        go_ret
        exact Exact.no (below_next HB1.out HB.out) HNO.out
      rw [hh] at HHX
      have hn : n < E.length := Classical.byContradiction fun hx => by rw [inSet_out hx] at hh; cases hh
      rw [inSet_at hn] at hh
      unfold pWr1 at hh
      rw [Bool.and_eq_true, beq_iff_eq, beq_iff_eq] at hh
      have HOK2 := Lib.hid (fun a => HOK.out n rfl HNM.out hn a hh.1 hh.2.symm)
      have HNK2 : Hid (T → x0 = (Ev.at E n).th ∧ x5 = true ∧ (Ev.at E n).ex = true) := Lib.hid (fun ht => by
        obtain ⟨n2, a, _, _, c, _, _, d, f⟩ := HNK.out ht
        obtain rfl : n = n2 := by omega
        exact ⟨c, d, f⟩)
      clear HOK HNK hh
      have hni : (n : Int) < (E.length : Int) := by omega
      refine wo_start (S := (fun W => W.cell? ⟨w.heap.size, 0, none⟩ = some (.int .i64 locs) ∧ W.cell? ⟨w.heap.size, 1, none⟩ = some (.slice (some ⟨eb, eo, none⟩) E.length ec) ∧ W.cell? ⟨w.heap.size, 2, none⟩ = some (.slice ra R.length rc) ∧ W.cell? ⟨w.heap.size, 3, none⟩ = some (.slice ca C.length cc) ∧ W.cell? ⟨w.heap.size, 4, none⟩ = some (.slice (some ⟨b, o, none⟩) Rmw.length mc) ∧ W.cell? ⟨w.heap.size, 5, none⟩ = some (.slice da Data.length dc) ∧ W.cell? ⟨w.heap.size, 6, none⟩ = some (.slice ta Ctrl.length tc) ∧ W.cell? ⟨w.heap.size, 7, none⟩ = some (.slice ia CtrlI.length ic) ∧ W.cell? ⟨wr.heap.size, 0, none⟩ = some (.int .i64 (m : Int)) ∧ W.cell? ⟨wr.heap.size, 1, none⟩ = some (.int .i64 (n : Int)) ∧ W.cell? ⟨wn.heap.size, 0, none⟩ = some (.int .i64 x0) ∧ W.cell? ⟨wn.heap.size, 3, none⟩ = some (.int .i64 x3) ∧ W.cell? ⟨wn.heap.size, 5, none⟩ = some (.bool x5) ∧ Bl w1 W)) [0, 1, 2, 3, 4, 5, 6, 7, 8, 9, 11, 12, 10, 13, 14, 15] 16 [false, false, false, false, false, false, false, false, false, false, false, false, false, false, false, false] (by kernel_rfl) (by rfl) (by rfl) ⟨c0, c1, c2, c3, c4, c5, c6, c7, pz0, pz1, rb0, rb3, rb5, ⟨HBW.out.drew⟩⟩ (fun hHeld => ?_)
      repeat (first | (refine wo_skip rfl (by kernel_rfl) (by rfl) (fun _ _ _ h => h) (by assumption) ?_; simp only [Act.put, List.getElem_toArray, List.getElem_cons_succ, List.getElem_cons_zero, List.setIfInBounds_toArray, List.set_cons_zero, List.set_cons_succ]) | (refine wo_do rfl (by kernel_rfl) (by rfl) (fun _ _ _ _ h => h) (by assumption) ?_; apply Exists.intro; refine ⟨fun W hW => ?_, ?_⟩; ((try dsimp only at hW); (try simp only [List.getElem_toArray, List.getElem_cons_succ, List.getElem_cons_zero]); go_simp; first | done | with_reducible rfl); simp only [Act.put, List.getElem_toArray, List.getElem_cons_succ, List.getElem_cons_zero, List.setIfInBounds_toArray, List.set_cons_zero, List.set_cons_succ]))
      refine wo_call rfl (by kernel_rfl) (by rfl) (fun K hK => ?_)
      try simp only [List.getElem_toArray, List.getElem_cons_succ, List.getElem_cons_zero]
      go_simp
      obtain ⟨c0, c1, c2, c3, c4, c5, c6, c7, pz0, pz1, rb0, rb3, rb5, hBl⟩ := hHeld
      go_at_call 24
      refine (HWR.out _ _).mono ?_
      rintro en wq ⟨lb, rfl, hlb, hbe⟩
      dsimp only
      refine hK.out _ _ ⟨cell_next c0 hbe, cell_next c1 hbe, cell_next c2 hbe, cell_next c3 hbe, cell_next c4 hbe, cell_next c5 hbe, cell_next c6 hbe, cell_next c7 hbe, cell_next pz0 hbe, cell_next pz1 hbe, cell_next rb0 hbe, cell_next rb3 hbe, cell_next rb5 hbe, ⟨below_next hBl.out hbe⟩⟩ (fun hHeld => ?_)
      clear hK K hbe c0 c1 c2 c3 c4 c5 c6 c7 pz0 pz1 rb0 rb3 rb5 hBl
      simp only [List.setIfInBounds_toArray, List.set_cons_zero, List.set_cons_succ]
      repeat (first | (refine wo_skip rfl (by kernel_rfl) (by rfl) (fun _ _ _ h => h) (by assumption) ?_; simp only [Act.put, List.getElem_toArray, List.getElem_cons_succ, List.getElem_cons_zero, List.setIfInBounds_toArray, List.set_cons_zero, List.set_cons_succ]) | (refine wo_do rfl (by kernel_rfl) (by rfl) (fun _ _ _ _ h => h) (by assumption) ?_; apply Exists.intro; refine ⟨fun W hW => ?_, ?_⟩; ((try dsimp only at hW); (try simp only [List.getElem_toArray, List.getElem_cons_succ, List.getElem_cons_zero]); go_simp; first | done | with_reducible rfl); simp only [Act.put, List.getElem_toArray, List.getElem_cons_succ, List.getElem_cons_zero, List.setIfInBounds_toArray, List.set_cons_zero, List.set_cons_succ]))
      refine wo_call rfl (by kernel_rfl) (by rfl) (fun K hK => ?_)
      try simp only [List.getElem_toArray, List.getElem_cons_succ, List.getElem_cons_zero]
      go_simp
      obtain ⟨c0, c1, c2, c3, c4, c5, c6, c7, pz0, pz1, rb0, rb3, rb5, hBl⟩ := hHeld
      go_at_call 25
      refine (HHX.out _ _ hBl.out hlb).mono ?_
      clear hlb
      rintro en wq ⟨rfl, hbe⟩
      dsimp only
      refine hK.out _ _ ⟨cell_next c0 hbe, cell_next c1 hbe, cell_next c2 hbe, cell_next c3 hbe, cell_next c4 hbe, cell_next c5 hbe, cell_next c6 hbe, cell_next c7 hbe, cell_next pz0 hbe, cell_next pz1 hbe, cell_next rb0 hbe, cell_next rb3 hbe, cell_next rb5 hbe, ⟨below_next hBl.out hbe⟩⟩ (fun hHeld => ?_)
      clear hK K hbe c0 c1 c2 c3 c4 c5 c6 c7 pz0 pz1 rb0 rb3 rb5 hBl
      simp only [List.setIfInBounds_toArray, List.set_cons_zero, List.set_cons_succ]
      repeat (first | (refine wo_skip rfl (by kernel_rfl) (by rfl) (fun _ _ _ h => h) (by assumption) ?_; simp only [Act.put, List.getElem_toArray, List.getElem_cons_succ, List.getElem_cons_zero, List.setIfInBounds_toArray, List.set_cons_zero, List.set_cons_succ]) | (refine wo_do rfl (by kernel_rfl) (by rfl) (fun _ _ _ _ h => h) (by assumption) ?_; apply Exists.intro; refine ⟨fun W hW => ?_, ?_⟩; ((try dsimp only at hW); (try simp only [List.getElem_toArray, List.getElem_cons_succ, List.getElem_cons_zero]); go_simp; first | done | with_reducible rfl); simp only [Act.put, List.getElem_toArray, List.getElem_cons_succ, List.getElem_cons_zero, List.setIfInBounds_toArray, List.set_cons_zero, List.set_cons_succ]))
      refine wo_done (by kernel_rfl) ?_
      obtain ⟨c0, c1, c2, c3, c4, c5, c6, c7, pz0, pz1, rb0, rb3, rb5, hBl⟩ := hHeld
      have HB := Lib.hid hBl.out
      clear hBl HHX HBW
      rcases HE1.out.next HB.out with h0 | ⟨eb2, eo2, hea, hebl, hecc⟩
      · rw [h0] at hm; simp at hm
      obtain ⟨rfl, rfl⟩ : eb = eb2 ∧ eo = eo2 := by simpa using hea
      obtain ⟨f0, f1, f2, f3, f4, f5⟩ := hecc n hn
      clear hecc hebl hea
      change _ = some (Value.int _ (Ev.at E n).th) at f0
      change _ = some (Value.int _ (Ev.at E n).kd) at f1
      change _ = some (Value.int _ (Ev.at E n).md) at f2
      change _ = some (Value.int _ (Ev.at E n).lc) at f3
      change _ = some (Value.int _ (Ev.at E n).vl) at f4
      change _ = some (Value.bool (Ev.at E n).ex) at f5
      generalize Ev.at E n = fv at *
      obtain ⟨y0, y1, y2, y3, y4, y5⟩ := fv
      dsimp only at f0 f1 f2 f3 f4 f5 HOK2 HNK2
      have rz0 := fun o => cell_next rb0 ((Below.refl _ _).alloc (Nat.le_refl _) o)
      have rz5 := fun o => cell_next rb5 ((Below.refl _ _).alloc (Nat.le_refl _) o)
      have HBZ : Hid (∀ o, Below w1.heap.size w1 (World.alloc _ o)) := Lib.hid (fun o => below_next HB.out ((Below.refl _ _).alloc (Nat.le_refl _) o))
      clear HB rb0 rb3 rb5 c0 c2 c3 c4 c5 c6 c7 pz0
      by_cases q0 : y0 = x0
      rotate_left
      · have m0 : (y0 != x0) = true := bne_iff_ne.2 q0
        have HNO := Lib.hid (HN.out (fun ht => q0 (HNK2.out ht).1.symm))
        clear HOK2 HNK2 HS HN
        go_wp2_with fail
        go_ret
        exact Exact.no (below_next HB1.out (HBZ.out _)) HNO.out
      subst q0
      have m0 : (y0 != y0) = false := by simp
      cases y5
      · have HNO := Lib.hid (HN.out (fun ht => by have := (HNK2.out ht).2.2; cases this))
        clear HOK2 HNK2 HS HN
        go_wp2_with fail
        go_ret
        exact Exact.no (below_next HB1.out (HBZ.out _)) HNO.out
      cases x5
      · have HNO := Lib.hid (HN.out (fun ht => by have := (HNK2.out ht).2.1; cases this))
        clear HOK2 HNK2 HS HN
        go_wp2_with fail
        go_ret
        exact Exact.no (below_next HB1.out (HBZ.out _)) HNO.out
      have HL := Lib.hid (HS.out (HOK2.out rfl rfl rfl))
      clear HOK2 HNK2 HS HN
      go_wp2_with fail
      go_roundw
      case rel => exact ⟨HBZ.out _, k + 1, by omega, by go_num, HL⟩
      case measure => simp [intOf]; omega
    · have hdk : decide ((k : Int) < (Rmw.length : Int)) = false := by simp; omega
      have HIF := Lib.hid (rmws_iff (fun j (hj : j < Rmw.length) => HD.out j (by omega)) HUP.out)
      have HBE := Lib.hid hbe
      obtain ⟨c0, c1, c2, c3, c4, c5, c6, c7⟩ := HG0.out.next hbe
      rw [hG] at c0 c1 c2 c3 c4 c5 c6 c7
      dsimp only at c0 c1 c2 c3 c4 c5 c6 c7
      clear hbe HD
      go_wp2_with fail
      clear c0 c1 c2 c3 c4 c5 c6 c7
      obtain ⟨c0, c1, c2, c3, c4, c5, c6, c7⟩ := HG0.out.next (below_next HBE.out ((Below.refl _ _).alloc (Nat.le_refl _) (Obj.cells #[.slice ea E.length ec, .func (.func 29) #[] #[]] 54 (0, 0))))
      rw [hG] at c0 c1 c2 c3 c4 c5 c6 c7
      dsimp only at c0 c1 c2 c3 c4 c5 c6 c7
      have sb0 : (wr.alloc (Obj.cells #[.slice ea E.length ec, .func (.func 29) #[] #[]] 54 (0, 0))).cell? ⟨wr.heap.size, 0, none⟩ = some (.slice ea E.length ec) := by rw [cell_of_row _ _ _ _ _ _ (heap_alloc_new _ _)]; rfl
      have sb1 : (wr.alloc (Obj.cells #[.slice ea E.length ec, .func (.func 29) #[] #[]] 54 (0, 0))).cell? ⟨wr.heap.size, 1, none⟩ = some (.func (.func 29) #[] #[]) := by rw [cell_of_row _ _ _ _ _ _ (heap_alloc_new _ _)]; rfl
      have hBl : Bl w1 (wr.alloc (Obj.cells #[.slice ea E.length ec, .func (.func 29) #[] #[]] 54 (0, 0))) := ⟨below_next HBE.out ((Below.refl _ _).alloc (Nat.le_refl _) _)⟩
      have HC2 := Lib.hid (fun (w' : World) (hb : Below w1.heap.size w1 w') => HCN.out w' (below_next HB1.out hb))
      clear HBE
      generalize wr.alloc (Obj.cells #[.slice ea E.length ec, .func (.func 29) #[] #[]] 54 (0, 0)) = W0 at *
      have hcl := cntP_le E pEx1 E.length
      generalize cntP E pEx1 E.length = N at *
      have hN9 : (N : Int) < 1000 := by omega
      have hw1 : IntKind.i64.wrap (2 * (Rmw.length : Int)) = 2 * (Rmw.length : Int) := IntWalk.i64_in _ (by omega)
      by_cases q0 : (N : Int) = 2 * (Rmw.length : Int)
      · have m0 : ((N : Int) == 2 * (Rmw.length : Int)) = true := by rw [q0]; exact beq_self_eq_true _
        have HYES := Lib.hid (HIF.out.2 (by omega))
        clear q0 HIF
        go_region_held3 (fun W => W.cell? ⟨w.heap.size, 0, none⟩ = some (.int .i64 locs) ∧ W.cell? ⟨w.heap.size, 1, none⟩ = some (.slice ea E.length ec) ∧ W.cell? ⟨w.heap.size, 2, none⟩ = some (.slice ra R.length rc) ∧ W.cell? ⟨w.heap.size, 3, none⟩ = some (.slice ca C.length cc) ∧ W.cell? ⟨w.heap.size, 4, none⟩ = some (.slice ma Rmw.length mc) ∧ W.cell? ⟨w.heap.size, 5, none⟩ = some (.slice da Data.length dc) ∧ W.cell? ⟨w.heap.size, 6, none⟩ = some (.slice ta Ctrl.length tc) ∧ W.cell? ⟨w.heap.size, 7, none⟩ = some (.slice ia CtrlI.length ic) ∧ W.cell? ⟨wr.heap.size, 0, none⟩ = some (.slice ea E.length ec) ∧ W.cell? ⟨wr.heap.size, 1, none⟩ = some (.func (.func 29) #[] #[]) ∧ Bl w1 W)
          (first | (go_split_ands; exact ⟨cell_next ‹_› hbe, cell_next ‹_› hbe, cell_next ‹_› hbe, cell_next ‹_› hbe, cell_next ‹_› hbe, cell_next ‹_› hbe, cell_next ‹_› hbe, cell_next ‹_› hbe, cell_next ‹_› hbe, cell_next ‹_› hbe, ⟨below_next (Bl.out ‹_›) hbe⟩⟩) | (go_split_ands; exact ⟨cell_next ‹_› (Below.refl _ _).drew, cell_next ‹_› (Below.refl _ _).drew, cell_next ‹_› (Below.refl _ _).drew, cell_next ‹_› (Below.refl _ _).drew, cell_next ‹_› (Below.refl _ _).drew, cell_next ‹_› (Below.refl _ _).drew, cell_next ‹_› (Below.refl _ _).drew, cell_next ‹_› (Below.refl _ _).drew, cell_next ‹_› (Below.refl _ _).drew, cell_next ‹_› (Below.refl _ _).drew, ⟨(Bl.out ‹_›).drew⟩⟩) | (go_split_ands; exact ⟨cell_next ‹_› ((Below.refl _ _).alloc (Nat.le_refl _) _), cell_next ‹_› ((Below.refl _ _).alloc (Nat.le_refl _) _), cell_next ‹_› ((Below.refl _ _).alloc (Nat.le_refl _) _), cell_next ‹_› ((Below.refl _ _).alloc (Nat.le_refl _) _), cell_next ‹_› ((Below.refl _ _).alloc (Nat.le_refl _) _), cell_next ‹_› ((Below.refl _ _).alloc (Nat.le_refl _) _), cell_next ‹_› ((Below.refl _ _).alloc (Nat.le_refl _) _), cell_next ‹_› ((Below.refl _ _).alloc (Nat.le_refl _) _), cell_next ‹_› ((Below.refl _ _).alloc (Nat.le_refl _) _), cell_next ‹_› ((Below.refl _ _).alloc (Nat.le_refl _) _), ⟨below_next (Bl.out ‹_›) ((Below.refl _ _).alloc (Nat.le_refl _) _)⟩⟩) | fail "keep")
          (first | (go_at_call 26; refine (HC2.out _ (Bl.out (by go_split_ands; assumption))).mono ?_; rintro en wn ⟨rfl, hbe⟩))
        go_split_ands
        have HB := Lib.hid (Bl.out ‹Bl w1 _›)
        go_wp2_with fail
        go_ret
        exact Exact.yes (below_next HB1.out HB.out) HYES.out
      · have m0 : ((N : Int) == 2 * (Rmw.length : Int)) = false := beq_eq_false_iff_ne.2 q0
        have HNO : Hid (¬ RmwsOk E Rmw) := Lib.hid (fun h => by have := HIF.out.1 h; omega)
        clear q0 HIF
        go_region_held3 (fun W => W.cell? ⟨w.heap.size, 0, none⟩ = some (.int .i64 locs) ∧ W.cell? ⟨w.heap.size, 1, none⟩ = some (.slice ea E.length ec) ∧ W.cell? ⟨w.heap.size, 2, none⟩ = some (.slice ra R.length rc) ∧ W.cell? ⟨w.heap.size, 3, none⟩ = some (.slice ca C.length cc) ∧ W.cell? ⟨w.heap.size, 4, none⟩ = some (.slice ma Rmw.length mc) ∧ W.cell? ⟨w.heap.size, 5, none⟩ = some (.slice da Data.length dc) ∧ W.cell? ⟨w.heap.size, 6, none⟩ = some (.slice ta Ctrl.length tc) ∧ W.cell? ⟨w.heap.size, 7, none⟩ = some (.slice ia CtrlI.length ic) ∧ W.cell? ⟨wr.heap.size, 0, none⟩ = some (.slice ea E.length ec) ∧ W.cell? ⟨wr.heap.size, 1, none⟩ = some (.func (.func 29) #[] #[]) ∧ Bl w1 W)
          (first | (go_split_ands; exact ⟨cell_next ‹_› hbe, cell_next ‹_› hbe, cell_next ‹_› hbe, cell_next ‹_› hbe, cell_next ‹_› hbe, cell_next ‹_› hbe, cell_next ‹_› hbe, cell_next ‹_› hbe, cell_next ‹_› hbe, cell_next ‹_› hbe, ⟨below_next (Bl.out ‹_›) hbe⟩⟩) | (go_split_ands; exact ⟨cell_next ‹_› (Below.refl _ _).drew, cell_next ‹_› (Below.refl _ _).drew, cell_next ‹_› (Below.refl _ _).drew, cell_next ‹_› (Below.refl _ _).drew, cell_next ‹_› (Below.refl _ _).drew, cell_next ‹_› (Below.refl _ _).drew, cell_next ‹_› (Below.refl _ _).drew, cell_next ‹_› (Below.refl _ _).drew, cell_next ‹_› (Below.refl _ _).drew, cell_next ‹_› (Below.refl _ _).drew, ⟨(Bl.out ‹_›).drew⟩⟩) | (go_split_ands; exact ⟨cell_next ‹_› ((Below.refl _ _).alloc (Nat.le_refl _) _), cell_next ‹_› ((Below.refl _ _).alloc (Nat.le_refl _) _), cell_next ‹_› ((Below.refl _ _).alloc (Nat.le_refl _) _), cell_next ‹_› ((Below.refl _ _).alloc (Nat.le_refl _) _), cell_next ‹_› ((Below.refl _ _).alloc (Nat.le_refl _) _), cell_next ‹_› ((Below.refl _ _).alloc (Nat.le_refl _) _), cell_next ‹_› ((Below.refl _ _).alloc (Nat.le_refl _) _), cell_next ‹_› ((Below.refl _ _).alloc (Nat.le_refl _) _), cell_next ‹_› ((Below.refl _ _).alloc (Nat.le_refl _) _), cell_next ‹_› ((Below.refl _ _).alloc (Nat.le_refl _) _), ⟨below_next (Bl.out ‹_›) ((Below.refl _ _).alloc (Nat.le_refl _) _)⟩⟩) | fail "keep")
          (first | (go_at_call 26; refine (HC2.out _ (Bl.out (by go_split_ands; assumption))).mono ?_; rintro en wn ⟨rfl, hbe⟩))
        go_split_ands
        have HB := Lib.hid (Bl.out ‹Bl w1 _›)
        go_wp2_with fail
        go_ret
        exact Exact.no (below_next HB1.out HB.out) HNO.out
end Go.Proofs.YtgpkdhbegkhjjaaDoor
namespace Go.Proofs.YtgpkdhbegkhjjaaDoor
open Go.RowKit RelA
attribute [local go_sem ↓] Go.wp_at_zero Go.wp_at_succ
namespace RelA
theorem cnt_pos {g : Gr} (_ : 1 ≤ g.locs) (ln : g.locs ≤ g.E.length) (hE : ∀ i, i < g.E.length → evAt g i = true) (t : Nat) (ht : (t : Int) < g.locs) : 0 < cntW g.E t g.E.length := by
  have hm : ∀ k, t < k → 0 < cntW g.E t k := by
    intro k
    induction k with
    | zero => intro h; omega
    | succ k ih =>
      intro h
      unfold cntW
      by_cases c : t = k
      · subst c
        have he := hE t (by omega)
        rw [ev_low ht] at he
        simp only [Bool.and_eq_true, beq_iff_eq] at he
        rw [if_pos ⟨he.1.1.1.1.2, he.1.1.2⟩]
        omega
      · have := ih (by omega)
        omega
  exact hm _ (by omega)
/-- the parts of the program's check, and chapter 6's -/
theorem check_parts {g : Gr} : CheckOk g ↔ (1 ≤ g.locs ∧ g.locs ≤ 4 ∧ g.locs ≤ (g.E.length : Int) ∧ (g.E.length : Int) ≤ 40) ∧ (∀ i, i < g.E.length → evAt g i = true) ∧ RfsOk g.E g.R ∧ CosOk g ∧ RmwsOk g.E g.Rmw ∧ DepsOk g.E g.Data ∧ DepsOk g.E g.Ctrl ∧ DepsOk g.E g.CtrlI := by
  constructor
  · intro h
    exact ⟨⟨h.l1, h.l4, h.ln, by have := h.n40; omega⟩, fun i hi => (h.at_ i hi).1, ⟨h.rlen, fun i hi => (h.at_ i hi).2⟩, ⟨h.clen, h.co⟩, h.rmw, h.data, h.ctrl, h.ctrli⟩
  · rintro ⟨⟨a, b, c, d⟩, e, f, k, l, m, n, o⟩
    exact ⟨a, b, c, by omega, f.1, k.1, fun i hi => ⟨e i hi, f.2 i hi⟩, k.2, l, m, n, o⟩
end RelA
set_option maxRecDepth 20000 in
set_option maxHeartbeats 8000000 in
theorem check_p (g : Gr) (w : World) (h : GIn0 w g) :
    Calls Tryd.prog 6 #[g.v] w (Exact (CheckOk g) w) := by
  have he50 := h.e50
  have HQ := Lib.hid (check_parts (g := g))
  have HB0 : Hid (∀ o, Below w.heap.size w (w.alloc o)) := Lib.hid (fun o => (Below.refl _ _).alloc (Nat.le_refl _) o)
  have HEV := Lib.hid (fun w' (hb : Below w.heap.size w w') (a : 1 ≤ g.locs) (b : g.locs ≤ 4) => events_p g w' (h.es.next hb) (by omega) a b)
  have HRF := Lib.hid (fun w' (hb : Below w.heap.size w w') => rf_p g w' (h.es.next hb) (h.rf.next hb) (by omega) (by have := h.r60; omega))
  have HCO := Lib.hid (fun w' (hb : Below w.heap.size w w') (n40 : g.E.length ≤ 40) (hpos : (g.C.length : Int) = g.locs → ∀ t : Nat, t < g.C.length → 0 < cntW g.E t g.E.length) => co_p g w' (h.es.next hb) (h.co.next hb) n40 (by have := h.c6; omega) (fun q hq => by have := h.l50 q hq; omega) hpos)
  have HMW := Lib.hid (fun w' (hb : Below w.heap.size w w') (n40 : g.E.length ≤ 40) => rmw_p g w' (h.es.next hb) n40 (h.rmw.next hb) (by have := h.m50; omega))
  have HD1 := Lib.hid (fun w' (hb : Below w.heap.size w w') => deps_p g g.da g.Data g.dc w' (h.es.next hb) (by omega) (h.data.next hb) (by have := h.d300; omega))
  have HD2 := Lib.hid (fun w' (hb : Below w.heap.size w w') => deps_p g g.ta g.Ctrl g.tc w' (h.es.next hb) (by omega) (h.ctrl.next hb) (by have := h.t300; omega))
  have HD3 := Lib.hid (fun w' (hb : Below w.heap.size w w') => deps_p g g.ia g.CtrlI g.ic w' (h.es.next hb) (by omega) (h.ctrli.next hb) (by have := h.i300; omega))
  have HPO := Lib.hid (fun (a : 1 ≤ g.locs) (b : g.locs ≤ g.E.length) (hE : ∀ i, i < g.E.length → evAt g i = true) (c : (g.C.length : Int) = g.locs) (t : Nat) (ht : t < g.C.length) => cnt_pos a b hE t (by omega))
  clear h
  obtain ⟨K, hK⟩ : ∃ K, K = CheckOk g := ⟨_, rfl⟩
  obtain ⟨PE, hPE⟩ : ∃ P, P = ∀ i, i < g.E.length → evAt g i = true := ⟨_, rfl⟩
  obtain ⟨PR, hPR⟩ : ∃ P, P = RfsOk g.E g.R := ⟨_, rfl⟩
  obtain ⟨PC, hPC⟩ : ∃ P, P = CosOk g := ⟨_, rfl⟩
  obtain ⟨PM, hPM⟩ : ∃ P, P = RmwsOk g.E g.Rmw := ⟨_, rfl⟩
  obtain ⟨P1, hP1⟩ : ∃ P, P = DepsOk g.E g.Data := ⟨_, rfl⟩
  obtain ⟨P2, hP2⟩ : ∃ P, P = DepsOk g.E g.Ctrl := ⟨_, rfl⟩
  obtain ⟨P3, hP3⟩ : ∃ P, P = DepsOk g.E g.CtrlI := ⟨_, rfl⟩
  rw [← hK, ← hPE, ← hPR, ← hPC, ← hPM, ← hP1, ← hP2, ← hP3] at HQ
  rw [← hK]
  rw [← hPE] at HEV HPO
  rw [← hPR] at HRF
  rw [← hPC] at HCO
  rw [← hPM] at HMW
  rw [← hP1] at HD1
  rw [← hP2] at HD2
  rw [← hP3] at HD3
  clear hK hPE hPR hPC hPM hP1 hP2 hP3
  have HG0 := Lib.hid (GBox.of_alloc w g 28)
  obtain ⟨G, hG⟩ : ∃ G, G = g := ⟨_, rfl⟩
  obtain ⟨locs, ea, E, ec, ra, R, rc, ca, C, cc, ma, Rmw, mc, da, Data, dc, ta, Ctrl, tc, ia, CtrlI, ic⟩ := g
  simp only [Gr.v, gcells] at he50 HQ HEV HRF HCO HMW HD1 HD2 HD3 HPO HG0 ⊢
  rw [← hG] at HG0
  have hE : (E.length : Int) ≤ 50 := by omega
  have c0a := HG0.out.c0
  have c1a := HG0.out.c1
  have c2a := HG0.out.c2
  have c3a := HG0.out.c3
  have c4a := HG0.out.c4
  have c5a := HG0.out.c5
  have c6a := HG0.out.c6
  have c7a := HG0.out.c7
  rw [hG] at c0a c1a c2a c3a c4a c5a c6a c7a
  dsimp only at c0a c1a c2a c3a c4a c5a c6a c7a
  by_cases e1 : 1 ≤ locs
  rotate_left
  · have l1 : decide (1 ≤ locs) = false := by simp [e1] <;> omega
    have HNO : Hid (¬ K) := Lib.hid (fun k => e1 (HQ.out.1 k).1.1)
    go_enter Tryd.func6, Tryd.ntmps6
    go_wp2_with fail
    go_ret
    exact Exact.no (HB0.out _) HNO.out
  have l1 : decide (1 ≤ locs) = true := by simp [e1] <;> omega
  by_cases e2 : locs ≤ 4
  rotate_left
  · have l2 : decide (locs ≤ 4) = false := by simp [e2] <;> omega
    have HNO : Hid (¬ K) := Lib.hid (fun k => e2 (HQ.out.1 k).1.2.1)
    go_enter Tryd.func6, Tryd.ntmps6
    go_wp2_with fail
    go_ret
    exact Exact.no (HB0.out _) HNO.out
  have l2 : decide (locs ≤ 4) = true := by simp [e2] <;> omega
  by_cases e3 : locs ≤ (E.length : Int)
  rotate_left
  · have l3 : decide (locs ≤ (E.length : Int)) = false := by simp [e3] <;> omega
    have HNO : Hid (¬ K) := Lib.hid (fun k => e3 (HQ.out.1 k).1.2.2.1)
    go_enter Tryd.func6, Tryd.ntmps6
    go_wp2_with fail
    go_ret
    exact Exact.no (HB0.out _) HNO.out
  have l3 : decide (locs ≤ (E.length : Int)) = true := by simp [e3] <;> omega
  by_cases e4 : (E.length : Int) ≤ 40
  rotate_left
  · have l4 : decide ((E.length : Int) ≤ 40) = false := by simp [e4] <;> omega
    have n4 : decide (E.length ≤ 40) = false := by simp <;> omega
    have HNO : Hid (¬ K) := Lib.hid (fun k => e4 (HQ.out.1 k).1.2.2.2)
    go_enter Tryd.func6, Tryd.ntmps6
    go_wp2_with fail
    go_ret
    exact Exact.no (HB0.out _) HNO.out
  have l4 : decide ((E.length : Int) ≤ 40) = true := by simp [e4] <;> omega
  have n4 : decide (E.length ≤ 40) = true := by simp <;> omega
  have hl40 : E.length ≤ 40 := by omega
  have HM := Lib.hid (fun a b c d e f k => HQ.out.2 ⟨⟨e1, e2, e3, e4⟩, a, b, c, d, e, f, k⟩)
  have HNE := Lib.hid (fun (x : ¬ PE) (k : K) => x (HQ.out.1 k).2.1)
  have HNR := Lib.hid (fun (x : ¬ PR) (k : K) => x (HQ.out.1 k).2.2.1)
  have HNC := Lib.hid (fun (x : ¬ PC) (k : K) => x (HQ.out.1 k).2.2.2.1)
  have HNM := Lib.hid (fun (x : ¬ PM) (k : K) => x (HQ.out.1 k).2.2.2.2.1)
  have HN1 := Lib.hid (fun (x : ¬ P1) (k : K) => x (HQ.out.1 k).2.2.2.2.2.1)
  have HN2 := Lib.hid (fun (x : ¬ P2) (k : K) => x (HQ.out.1 k).2.2.2.2.2.2.1)
  have HN3 := Lib.hid (fun (x : ¬ P3) (k : K) => x (HQ.out.1 k).2.2.2.2.2.2.2)
  have HEV2 := Lib.hid (fun w' hb => HEV.out w' hb e1 e2)
  have HPO2 := Lib.hid (fun pe => HPO.out e1 e3 pe)
  clear HEV HPO HQ
  go_enter Tryd.func6, Tryd.ntmps6
  go_wp2_with fail
  obtain ⟨w1, hw1⟩ : ∃ x, x = w.alloc (Obj.cells #[.int .i64 locs, .slice ea E.length ec, .slice ra R.length rc, .slice ca C.length cc, .slice ma Rmw.length mc, .slice da Data.length dc, .slice ta Ctrl.length tc, .slice ia CtrlI.length ic] 28 (0, 0)) := ⟨_, rfl⟩
  rw [← hw1] at HG0 ⊢
  have HB : Hid (Below w.heap.size w w1) := Lib.hid (by rw [hw1]; exact (Below.refl _ _).alloc (Nat.le_refl _) _)
  have HBE : Hid (Below w1.heap.size w1 w1) := Lib.hid (Below.refl _ _)
  clear hw1 l1 l2 l3 l4 n4 e1 e2 e3 e4 c0a c1a c2a c3a c4a c5a c6a c7a
  refine (HEV2.out _ HB.out).mono ?_
  rintro e wn ⟨x, rfl, hx, hb⟩
  have HX := Lib.hid hx
  have HB := Lib.hid (below_next HB.out hb)
  have HBE := Lib.hid (below_next HBE.out hb)
  clear hx hb
  obtain ⟨c0, c1, c2, c3, c4, c5, c6, c7⟩ := HG0.out.next HBE.out
  rw [hG] at c0 c1 c2 c3 c4 c5 c6 c7
  dsimp only at c0 c1 c2 c3 c4 c5 c6 c7
  cases x
  · have HNO : Hid (¬ K) := Lib.hid (HNE.out (fun p => by have := HX.out.2 p; cases this))
    go_wp2_with fail
    go_ret
    exact Exact.no HB.out HNO.out
  have HX0 := Lib.hid (HX.out.1 rfl)
  clear HX
  go_wp2_with fail
  clear c0 c1 c2 c3 c4 c5 c6 c7
  refine (HRF.out _ HB.out).mono ?_
  rintro e wn ⟨x, rfl, hx, hb⟩
  have HX := Lib.hid hx
  have HB := Lib.hid (below_next HB.out hb)
  have HBE := Lib.hid (below_next HBE.out hb)
  clear hx hb
  obtain ⟨c0, c1, c2, c3, c4, c5, c6, c7⟩ := HG0.out.next HBE.out
  rw [hG] at c0 c1 c2 c3 c4 c5 c6 c7
  dsimp only at c0 c1 c2 c3 c4 c5 c6 c7
  cases x
  · have HNO : Hid (¬ K) := Lib.hid (HNR.out (fun p => by have := HX.out.2 p; cases this))
    go_wp2_with fail
    go_ret
    exact Exact.no HB.out HNO.out
  have HX1 := Lib.hid (HX.out.1 rfl)
  clear HX
  go_wp2_with fail
  clear c0 c1 c2 c3 c4 c5 c6 c7
  refine (HCO.out _ HB.out hl40 (HPO2.out HX0.out)).mono ?_
  rintro e wn ⟨x, rfl, hx, hb⟩
  have HX := Lib.hid hx
  have HB := Lib.hid (below_next HB.out hb)
  have HBE := Lib.hid (below_next HBE.out hb)
  clear hx hb
  obtain ⟨c0, c1, c2, c3, c4, c5, c6, c7⟩ := HG0.out.next HBE.out
  rw [hG] at c0 c1 c2 c3 c4 c5 c6 c7
  dsimp only at c0 c1 c2 c3 c4 c5 c6 c7
  cases x
  · have HNO : Hid (¬ K) := Lib.hid (HNC.out (fun p => by have := HX.out.2 p; cases this))
    go_wp2_with fail
    go_ret
    exact Exact.no HB.out HNO.out
  have HX2 := Lib.hid (HX.out.1 rfl)
  clear HX
  go_wp2_with fail
  clear c0 c1 c2 c3 c4 c5 c6 c7
  refine (HMW.out _ HB.out hl40).mono ?_
  rintro e wn ⟨x, rfl, hx, hb⟩
  have HX := Lib.hid hx
  have HB := Lib.hid (below_next HB.out hb)
  have HBE := Lib.hid (below_next HBE.out hb)
  clear hx hb
  obtain ⟨c0, c1, c2, c3, c4, c5, c6, c7⟩ := HG0.out.next HBE.out
  rw [hG] at c0 c1 c2 c3 c4 c5 c6 c7
  dsimp only at c0 c1 c2 c3 c4 c5 c6 c7
  cases x
  · have HNO : Hid (¬ K) := Lib.hid (HNM.out (fun p => by have := HX.out.2 p; cases this))
    go_wp2_with fail
    go_ret
    exact Exact.no HB.out HNO.out
  have HX3 := Lib.hid (HX.out.1 rfl)
  clear HX
  go_wp2_with fail
  clear c0 c1 c2 c3 c4 c5 c6 c7
  refine (HD1.out _ HB.out).mono ?_
  rintro e wn ⟨x, rfl, hx, hb⟩
  have HX := Lib.hid hx
  have HB := Lib.hid (below_next HB.out hb)
  have HBE := Lib.hid (below_next HBE.out hb)
  clear hx hb
  obtain ⟨c0, c1, c2, c3, c4, c5, c6, c7⟩ := HG0.out.next HBE.out
  rw [hG] at c0 c1 c2 c3 c4 c5 c6 c7
  dsimp only at c0 c1 c2 c3 c4 c5 c6 c7
  cases x
  · have HNO : Hid (¬ K) := Lib.hid (HN1.out (fun p => by have := HX.out.2 p; cases this))
    go_wp2_with fail
    go_ret
    exact Exact.no HB.out HNO.out
  have HX4 := Lib.hid (HX.out.1 rfl)
  clear HX
  go_wp2_with fail
  clear c0 c1 c2 c3 c4 c5 c6 c7
  refine (HD2.out _ HB.out).mono ?_
  rintro e wn ⟨x, rfl, hx, hb⟩
  have HX := Lib.hid hx
  have HB := Lib.hid (below_next HB.out hb)
  have HBE := Lib.hid (below_next HBE.out hb)
  clear hx hb
  obtain ⟨c0, c1, c2, c3, c4, c5, c6, c7⟩ := HG0.out.next HBE.out
  rw [hG] at c0 c1 c2 c3 c4 c5 c6 c7
  dsimp only at c0 c1 c2 c3 c4 c5 c6 c7
  cases x
  · have HNO : Hid (¬ K) := Lib.hid (HN2.out (fun p => by have := HX.out.2 p; cases this))
    go_wp2_with fail
    go_ret
    exact Exact.no HB.out HNO.out
  have HX5 := Lib.hid (HX.out.1 rfl)
  clear HX
  go_wp2_with fail
  clear c0 c1 c2 c3 c4 c5 c6 c7
  refine (HD3.out _ HB.out).mono ?_
  rintro e wn ⟨x, rfl, hx, hb⟩
  have HX := Lib.hid hx
  have HB := Lib.hid (below_next HB.out hb)
  have HBE := Lib.hid (below_next HBE.out hb)
  clear hx hb
  obtain ⟨c0, c1, c2, c3, c4, c5, c6, c7⟩ := HG0.out.next HBE.out
  rw [hG] at c0 c1 c2 c3 c4 c5 c6 c7
  dsimp only at c0 c1 c2 c3 c4 c5 c6 c7
  cases x
  · have HNO : Hid (¬ K) := Lib.hid (HN3.out (fun p => by have := HX.out.2 p; cases this))
    go_wp2_with fail
    go_ret
    exact Exact.no HB.out HNO.out
  have HX6 := Lib.hid (HX.out.1 rfl)
  clear HX
  go_wp2_with fail
  go_ret
  exact Exact.yes HB.out (HM.out HX0.out HX1.out HX2.out HX3.out HX4.out HX5.out HX6.out)
end Go.Proofs.YtgpkdhbegkhjjaaDoor
