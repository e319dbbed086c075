import Derived.Test.YtepkjnpbdjmlbaaDoorRelH
namespace Go.Proofs.YtepkjnpbdjmlbaaDoor
open Go.RowKit RelA
namespace RelA
theorem Tab.below {w w' : World} {B : Nat} (h : Tab w) (hb : Below B w w') (h0 : 0 < B) : Tab w' := fun k hk => (hb.cell (p := ⟨0, k, none⟩) h0).trans (h k hk)
/-- steps of R lead from i to j -/
abbrev Path (R : Nat → Nat) (i j : Nat) : Prop := Relation.TransGen (fun a b => (R a).testBit b = true) i j
open Classical in
/-- one step or more -/
noncomputable def plusR (R : Nat → Nat) : Nat → Nat := fun i => bitsOf (fun j => decide (Path R i j)) 40
theorem plusR_bit (R : Nat → Nat) (i j : Nat) : (plusR R i).testBit j = true ↔ j < 40 ∧ Path R i j := by
  unfold plusR; rw [testBit_bitsOf]; simp
theorem plusR_lt (R : Nat → Nat) (i : Nat) : plusR R i < 2 ^ 40 := bitsOf_lt _ _
/-- what the loop of Plus knows -/
def PInv (R T : Nat → Nat) : Prop := (∀ i, T i < 2 ^ 40) ∧ (∀ i j, (R i).testBit j = true → (T i).testBit j = true) ∧ (∀ i j, (T i).testBit j = true → Path R i j)
theorem path_lt {R : Nat → Nat} (hR : ∀ i, R i < 2 ^ 40) {i j : Nat} (h : Path R i j) : j < 40 := by
  cases h with
  | single h => exact bit_lt (hR _) h
  | tail _ h => exact bit_lt (hR _) h
theorem PInv.start (R : Nat → Nat) (hR : ∀ i, R i < 2 ^ 40) : PInv R R := ⟨hR, fun _ _ h => h, fun _ _ h => .single h⟩
theorem path_trans {R : Nat → Nat} {i j k : Nat} (h : Path R i j) (g : Path R j k) : Path R i k := by
  induction g with
  | single g => exact .tail h g
  | tail _ g ih => exact .tail ih g
theorem PInv.step {R T : Nat → Nat} (h : PInv R T) : PInv R (fun i => T i ||| U T (T i)) := by
  obtain ⟨h1, h2, h3⟩ := h
  refine ⟨fun i => Nat.or_lt_two_pow (h1 i) (U_lt _ _), fun i j hj => ?_, fun i j hj => ?_⟩
  · show (T i ||| U T (T i)).testBit j = true
    rw [Nat.testBit_or, h2 i j hj]; rfl
  · have hj : (T i ||| U T (T i)).testBit j = true := hj
    rw [Nat.testBit_or, Bool.or_eq_true, U_bit] at hj
    rcases hj with hj | ⟨_, k, _, a, b⟩
    · exact h3 i j hj
    · exact path_trans (h3 _ _ a) (h3 _ _ b)
theorem PInv.done {R T : Nat → Nat} (hR : ∀ i, R i < 2 ^ 40) (h : PInv R T) (he : ∀ i, i < 40 → (T i ||| U T (T i)) = T i) (i : Nat) (hi : i < 40) : (T i ||| U T (T i)) = plusR R i := by
  obtain ⟨h1, h2, h3⟩ := h
  rw [he i hi]
  apply Nat.eq_of_testBit_eq
  intro j
  rw [Bool.eq_iff_iff, plusR_bit]
  constructor
  · intro hj; exact ⟨bit_lt (h1 i) hj, h3 i j hj⟩
  · rintro ⟨hj, hp⟩
    clear hj
    induction hp with
    | single h => exact h2 _ _ h
    | @tail b c hab hbc ih =>
      have hb40 := path_lt hR hab
      have : (T i ||| U T (T i)).testBit c = true := by
        rw [Nat.testBit_or, Bool.or_eq_true, U_bit]
        exact .inr ⟨bit_lt (hR _) hbc, b, hb40, ih, h2 _ _ hbc⟩
      rwa [he i hi] at this
def muA (xs : Array Value) : Nat := ((List.range 40).map fun i => 2 ^ 40 - (numOf (xs.getD i undef)).toNat).sum
def ptrB : Value → Nat | .pointer (some a) => a.block | _ => 0
theorem sum_lt (f g : Nat → Nat) (l : List Nat) (hle : ∀ i ∈ l, f i ≤ g i) (hlt : ∃ i ∈ l, f i < g i) : (l.map f).sum < (l.map g).sum := by
  induction l with
  | nil => obtain ⟨i, hi, _⟩ := hlt; cases hi
  | cons a l ih =>
    have hl : (l.map f).sum ≤ (l.map g).sum := by
      clear ih hlt
      have h2 : ∀ i ∈ l, f i ≤ g i := fun i hi => hle i (by simp [hi])
      clear hle
      induction l with
      | nil => simp
      | cons b l ih =>
        have := ih fun i hi => h2 i (by simp [hi])
        have := h2 b (by simp)
        simp only [List.map_cons, List.sum_cons]; omega
    have ha := hle a (by simp)
    simp only [List.map_cons, List.sum_cons]
    obtain ⟨i, hi, hfi⟩ := hlt
    rcases List.mem_cons.1 hi with rfl | hi
    · omega
    · have := ih (fun i hi => hle i (by simp [hi])) ⟨i, hi, hfi⟩
      omega
theorem muA_lt (T T' : Nat → Nat) (hlt : ∀ i, T' i < 2 ^ 40) (hle : ∀ i, T i ≤ T' i) (hne : sameB T' T = false) : muA (rowsOf T') < muA (rowsOf T) := by
  unfold muA
  have hget : ∀ (R : Nat → Nat) i, i < 40 → (rowsOf R).getD i undef = .int .u64 (R i) := fun R i hi => by rw [Array.getD_eq_getD_getElem?, rowsOf_get R i hi]; rfl
  apply sum_lt
  · intro i hi
    have hi := List.mem_range.1 hi
    rw [hget _ i hi, hget _ i hi]
    have := hle i
    have := hlt i
    simp [numOf]; omega
  · have : ¬ ∀ i, i < 40 → T' i = T i := by
      intro h
      rw [(sameB_iff _ _).2 h] at hne; cases hne
    have : ∃ i, i < 40 ∧ T' i ≠ T i := by
      apply Classical.byContradiction
      intro hn
      apply this
      intro i hi
      apply Classical.byContradiction
      intro h; exact hn ⟨i, hi, h⟩
    obtain ⟨i, hi, hne⟩ := this
    refine ⟨i, List.mem_range.2 hi, ?_⟩
    rw [hget _ i hi, hget _ i hi]
    have := hle i
    have := hlt i
    simp [numOf]; omega
end RelA

section
attribute [local go_sem ↓] Go.wp_at_zero Go.wp_at_succ RelA.execOp_load_rows
attribute [local go_sem] RelA.run_loadRows RelA.run_equalIn_rows
set_option maxHeartbeats 800000 in
theorem plus_any (b n : Nat) (R : Nat → Nat) (w : World) (hb : At w b n R) (hR : ∀ i, R i < 2 ^ 40) (htab : Tab w) :
    Calls Tryd.prog 21 #[.pointer (some ⟨b, 0, none⟩)] w fun e w' => ∃ c, e = .returned (.pointer (some ⟨c, 0, none⟩)) ∧ w.heap.size ≤ c ∧ At w' c n (plusR R) ∧ Below w.heap.size w w' := by
  have HR := Lib.hid hR
  have HB := Lib.hid hb
  have HTAB := Lib.hid htab
  clear hR hb htab
  go_enter Tryd.func21, Tryd.ntmps21
  go_wp2_with fail
  go_loopw [3] (fun t wr => ∃ (c : Nat) (T : Nat → Nat), t = .pointer (some ⟨c, 0, none⟩) ∧ At wr c n T ∧ PInv R T ∧ Below w.heap.size w wr) (fun t wr => muA (rowsW wr (ptrB t)))
  case atStart => exact ⟨b, R, rfl, HB.out, PInv.start R HR.out, Below.refl _ _⟩
  case round =>
    obtain ⟨c, T, rfl, hat, hp, hbe⟩ := hrel
    have HAT := Lib.hid hat
    have HP := Lib.hid hp
    clear hat hp
    have h0 : 0 < w.heap.size := Nat.lt_of_le_of_lt (Nat.zero_le _) HB.out.lt
    have HC1 := Lib.hid (then_ge c n c n T T wr HAT.out HAT.out HP.out.1 HP.out.1 (HTAB.out.below hbe h0))
    go_wp2_with fail
    refine HC1.out.mono ?_
    rintro e w1 ⟨rfl, hat1, hbe1⟩
    have HAT1 := Lib.hid hat1
    clear hat1
    go_wp2_with fail
    have HC2 := Lib.hid (or_any c n wr.heap.size (max n n) T _ w1 (HAT.out.below hbe1 HAT.out.lt) HAT1.out HP.out.1 (fun _ => U_lt _ _))
    refine HC2.out.mono ?_
    rintro e w2 ⟨rfl, hat2, hbe2⟩
    have HAT2 := Lib.hid hat2
    clear hat2
    have hatc := ((HAT.out.below hbe1 HAT.out.lt).below hbe2 (Nat.lt_of_lt_of_le HAT.out.lt hbe1.size))
    have i1 : RelIs w2.drew w1.heap.size := HAT2.out.is
    have i2 : RelIs w2.drew c := hatc.is
    have r1 : IsRows (rowsW w2.drew w1.heap.size) := HAT2.out.isRows
    have r2 : IsRows (rowsW w2.drew c) := hatc.isRows
    have e1 : rowsW w2.drew w1.heap.size = rowsOf _ := HAT2.out.rows
    have e2 : rowsW w2.drew c = rowsOf T := hatc.rows
    have e3 : rowsEq (rowsW w2.drew w1.heap.size) (rowsW w2.drew c) = sameB (fun i => T i ||| U T (T i)) T := by rw [e1, e2, rowsEq_of]
    have hb3 : Below w.heap.size w w2 := (hbe.trans (hbe1.mono hbe.size)).trans (hbe2.mono (Nat.le_trans hbe.size hbe1.size))
    have hw1 : w.heap.size ≤ w1.heap.size := Nat.le_trans hbe.size hbe1.size
    have hm : max n (max n n) = n := by omega
    rw [hm] at HAT2
    have E1 := Lib.hid e1
    have E2 := Lib.hid e2
    have HATC := Lib.hid hatc
    clear e1 e2 hm hatc
    cases hs : sameB (fun i => T i ||| U T (T i)) T
    · rw [hs] at e3
      have HSS := Lib.hid hs
      clear hs
      go_wp2_with fail
      go_region
      go_wp2_with fail
      go_roundw
      case rel =>
        exact ⟨w1.heap.size, _, rfl, HAT2.out.drew, HP.out.step, hb3.drew⟩
      case measure =>
        have hm2 := muA_lt T (fun i => T i ||| U T (T i)) HP.out.step.1 (fun i => Nat.left_le_or) HSS.out
        rw [← E1.out, ← HAT.out.rows] at hm2
        exact hm2
    · rw [hs] at e3
      have HSS := Lib.hid hs
      clear hs
      go_wp2_with fail
      go_region
      go_wp2_with fail
      go_ret
      exact ⟨_, rfl, hw1, HAT2.out.drew.congr fun i hi => HP.out.done HR.out ((sameB_iff _ _).1 HSS.out) i hi, hb3.drew⟩
end
end Go.Proofs.YtepkjnpbdjmlbaaDoor
