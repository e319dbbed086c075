/-
  What the functions that the law reaches do, one by one: contracts. Conditions: those that each of them prints.
-/
import Derived.Test.YtgpkdhbegkhjjaaDoorMa
import Derived.OwnWalk
import Derived.Deep.AppendLies
namespace Go.Proofs.YtgpkdhbegkhjjaaDoor
open Go.RowKit RelA
namespace RelA
theorem Tab.below {w w' : World} {B : Nat} (h : Tab w) (hb : Below B w w') (h0 : 0 < B) : Tab w' := fun k hk => (hb.cell (p := ⟨0, k, none⟩) h0).trans (h k hk)
/-- steps of R lead from i to j -/
abbrev Path (R : Nat → Nat) (i j : Nat) : Prop := Relation.TransGen (fun a b => (R a).testBit b = true) i j
open Classical in
/-- one step or more -/
noncomputable def plusR (R : Nat → Nat) : Nat → Nat := fun i => bitsOf (fun j => decide (Path R i j)) 40
theorem plusR_bit (R : Nat → Nat) (i j : Nat) : (plusR R i).testBit j = true ↔ j < 40 ∧ Path R i j := by
  unfold plusR; rw [testBit_bitsOf]; simp
theorem plusR_lt (R : Nat → Nat) (i : Nat) : plusR R i < 2 ^ 40 := bitsOf_lt _ _
/-- what the loop of Plus knows -/
def PInv (R T : Nat → Nat) : Prop := (∀ i, T i < 2 ^ 40) ∧ (∀ i j, (R i).testBit j = true → (T i).testBit j = true) ∧ (∀ i j, (T i).testBit j = true → Path R i j)
theorem path_lt {R : Nat → Nat} (hR : ∀ i, R i < 2 ^ 40) {i j : Nat} (h : Path R i j) : j < 40 := by
  cases h with
  | single h => exact bit_lt (hR _) h
  | tail _ h => exact bit_lt (hR _) h
theorem PInv.start (R : Nat → Nat) (hR : ∀ i, R i < 2 ^ 40) : PInv R R := ⟨hR, fun _ _ h => h, fun _ _ h => .single h⟩
theorem path_trans {R : Nat → Nat} {i j k : Nat} (h : Path R i j) (g : Path R j k) : Path R i k := by
  induction g with
  | single g => exact .tail h g
  | tail _ g ih => exact .tail ih g
theorem PInv.step {R T : Nat → Nat} (h : PInv R T) : PInv R (fun i => T i ||| U T (T i)) := by
  obtain ⟨h1, h2, h3⟩ := h
  refine ⟨fun i => Nat.or_lt_two_pow (h1 i) (U_lt _ _), fun i j hj => ?_, fun i j hj => ?_⟩
  · show (T i ||| U T (T i)).testBit j = true
    rw [Nat.testBit_or, h2 i j hj]; rfl
  · have hj : (T i ||| U T (T i)).testBit j = true := hj
    rw [Nat.testBit_or, Bool.or_eq_true, U_bit] at hj
    rcases hj with hj | ⟨_, k, _, a, b⟩
    · exact h3 i j hj
    · exact path_trans (h3 _ _ a) (h3 _ _ b)
theorem PInv.done {R T : Nat → Nat} (hR : ∀ i, R i < 2 ^ 40) (h : PInv R T) (he : ∀ i, i < 40 → (T i ||| U T (T i)) = T i) (i : Nat) (hi : i < 40) : (T i ||| U T (T i)) = plusR R i := by
  obtain ⟨h1, h2, h3⟩ := h
  rw [he i hi]
  apply Nat.eq_of_testBit_eq
  intro j
  rw [Bool.eq_iff_iff, plusR_bit]
  constructor
  · intro hj; exact ⟨bit_lt (h1 i) hj, h3 i j hj⟩
  · rintro ⟨hj, hp⟩
    clear hj
    induction hp with
    | single h => exact h2 _ _ h
    | @tail b c hab hbc ih =>
      have hb40 := path_lt hR hab
      have : (T i ||| U T (T i)).testBit c = true := by
        rw [Nat.testBit_or, Bool.or_eq_true, U_bit]
        exact .inr ⟨bit_lt (hR _) hbc, b, hb40, ih, h2 _ _ hbc⟩
      rwa [he i hi] at this
def muA (xs : Array Value) : Nat := ((List.range 40).map fun i => 2 ^ 40 - (numOf (xs.getD i undef)).toNat).sum
def ptrB : Value → Nat | .pointer (some a) => a.block | _ => 0
theorem sum_lt (f g : Nat → Nat) (l : List Nat) (hle : ∀ i ∈ l, f i ≤ g i) (hlt : ∃ i ∈ l, f i < g i) : (l.map f).sum < (l.map g).sum := by
  induction l with
  | nil => obtain ⟨i, hi, _⟩ := hlt; cases hi
  | cons a l ih =>
    have hl : (l.map f).sum ≤ (l.map g).sum := by
      clear ih hlt
      have h2 : ∀ i ∈ l, f i ≤ g i := fun i hi => hle i (by simp [hi])
      clear hle
      induction l with
      | nil => simp
      | cons b l ih =>
        have := ih fun i hi => h2 i (by simp [hi])
        have := h2 b (by simp)
        simp only [List.map_cons, List.sum_cons]; omega
    have ha := hle a (by simp)
    simp only [List.map_cons, List.sum_cons]
    obtain ⟨i, hi, hfi⟩ := hlt
    rcases List.mem_cons.1 hi with rfl | hi
    · omega
    · have := ih (fun i hi => hle i (by simp [hi])) ⟨i, hi, hfi⟩
      omega
theorem muA_lt (T T' : Nat → Nat) (hlt : ∀ i, T' i < 2 ^ 40) (hle : ∀ i, T i ≤ T' i) (hne : sameB T' T = false) : muA (rowsOf T') < muA (rowsOf T) := by
  unfold muA
  have hget : ∀ (R : Nat → Nat) i, i < 40 → (rowsOf R).getD i undef = .int .u64 (R i) := fun R i hi => by rw [Array.getD_eq_getD_getElem?, rowsOf_get R i hi]; rfl
  apply sum_lt
  · intro i hi
    have hi := List.mem_range.1 hi
    rw [hget _ i hi, hget _ i hi]
    have := hle i
    have := hlt i
    simp [numOf]; omega
  · have : ¬ ∀ i, i < 40 → T' i = T i := by
      intro h
      rw [(sameB_iff _ _).2 h] at hne; cases hne
    have : ∃ i, i < 40 ∧ T' i ≠ T i := by
      apply Classical.byContradiction
      intro hn
      apply this
      intro i hi
      apply Classical.byContradiction
      intro h; exact hn ⟨i, hi, h⟩
    obtain ⟨i, hi, hne⟩ := this
    refine ⟨i, List.mem_range.2 hi, ?_⟩
    rw [hget _ i hi, hget _ i hi]
    have := hle i
    have := hlt i
    simp [numOf]; omega
end RelA

section
attribute [local go_sem ↓] Go.wp_at_zero Go.wp_at_succ RelA.execOp_load_rows
attribute [local go_sem] RelA.run_loadRows RelA.run_equalIn_rows
set_option maxRecDepth 20000 in
set_option maxHeartbeats 800000 in
theorem plus_any (b n : Nat) (R : Nat → Nat) (w : World) (hb : At w b n R) (hR : ∀ i, R i < 2 ^ 40) (htab : Tab w) :
    Calls Tryd.prog 9 #[.pointer (some ⟨b, 0, none⟩)] w fun e w' => ∃ c, e = .returned (.pointer (some ⟨c, 0, none⟩)) ∧ w.heap.size ≤ c ∧ At w' c n (plusR R) ∧ Below w.heap.size w w' := by
  have HR := Lib.hid hR
  have HB := Lib.hid hb
  have HTAB := Lib.hid htab
  clear hR hb htab
  go_enter Tryd.func9, Tryd.ntmps9
  go_wp2_with fail
  go_loopw [3] (fun t wr => ∃ (c : Nat) (T : Nat → Nat), t = .pointer (some ⟨c, 0, none⟩) ∧ At wr c n T ∧ PInv R T ∧ Below w.heap.size w wr) (fun t wr => muA (rowsW wr (ptrB t)))
  case atStart => exact ⟨b, R, rfl, HB.out, PInv.start R HR.out, Below.refl _ _⟩
  case round =>
    obtain ⟨c, T, rfl, hat, hp, hbe⟩ := hrel
    have HAT := Lib.hid hat
    have HP := Lib.hid hp
    clear hat hp
    have h0 : 0 < w.heap.size := Nat.lt_of_le_of_lt (Nat.zero_le _) HB.out.lt
    have HC1 := Lib.hid (then_ge c n c n T T wr HAT.out HAT.out HP.out.1 HP.out.1 (HTAB.out.below hbe h0))
    go_wp2_with fail
    refine HC1.out.mono ?_
    rintro e w1 ⟨rfl, hat1, hbe1⟩
    have HAT1 := Lib.hid hat1
    clear hat1
    go_wp2_with fail
    have HC2 := Lib.hid (or_any c n wr.heap.size (max n n) T _ w1 (HAT.out.below hbe1 HAT.out.lt) HAT1.out HP.out.1 (fun _ => U_lt _ _))
    refine HC2.out.mono ?_
    rintro e w2 ⟨rfl, hat2, hbe2⟩
    have HAT2 := Lib.hid hat2
    clear hat2
    have hatc := ((HAT.out.below hbe1 HAT.out.lt).below hbe2 (Nat.lt_of_lt_of_le HAT.out.lt hbe1.size))
    have i1 : RelIs w2.drew w1.heap.size := HAT2.out.is
    have i2 : RelIs w2.drew c := hatc.is
    have r1 : IsRows (rowsW w2.drew w1.heap.size) := HAT2.out.isRows
    have r2 : IsRows (rowsW w2.drew c) := hatc.isRows
    have e1 : rowsW w2.drew w1.heap.size = rowsOf _ := HAT2.out.rows
    have e2 : rowsW w2.drew c = rowsOf T := hatc.rows
    have e3 : rowsEq (rowsW w2.drew w1.heap.size) (rowsW w2.drew c) = sameB (fun i => T i ||| U T (T i)) T := by rw [e1, e2, rowsEq_of]
    have hb3 : Below w.heap.size w w2 := (hbe.trans (hbe1.mono hbe.size)).trans (hbe2.mono (Nat.le_trans hbe.size hbe1.size))
    have hw1 : w.heap.size ≤ w1.heap.size := Nat.le_trans hbe.size hbe1.size
    have hm : max n (max n n) = n := by omega
    rw [hm] at HAT2
    have E1 := Lib.hid e1
    have E2 := Lib.hid e2
    have HATC := Lib.hid hatc
    clear e1 e2 hm hatc
    cases hs : sameB (fun i => T i ||| U T (T i)) T
    · rw [hs] at e3
      have HSS := Lib.hid hs
      clear hs
      go_wp2_with fail
      go_region
      go_wp2_with fail
      go_roundw
      case rel =>
        exact ⟨w1.heap.size, _, rfl, HAT2.out.drew, HP.out.step, hb3.drew⟩
      case measure =>
        have hm2 := muA_lt T (fun i => T i ||| U T (T i)) HP.out.step.1 (fun i => Nat.left_le_or) HSS.out
        rw [← E1.out, ← HAT.out.rows] at hm2
        exact hm2
    · rw [hs] at e3
      have HSS := Lib.hid hs
      clear hs
      go_wp2_with fail
      go_region
      go_wp2_with fail
      go_ret
      exact ⟨_, rfl, hw1, HAT2.out.drew.congr fun i hi => HP.out.done HR.out ((sameB_iff _ _).1 HSS.out) i hi, hb3.drew⟩
end
end Go.Proofs.YtgpkdhbegkhjjaaDoor
namespace Go.Proofs.YtgpkdhbegkhjjaaDoor
open Go.RowKit RelA
namespace RelA
def loopsB (P : Nat → Nat) : Bool := (List.range 40).any fun i => (P i).testBit i
theorem loopsB_iff (P : Nat → Nat) : loopsB P = true ↔ ∃ i, i < 40 ∧ (P i).testBit i = true := by unfold loopsB; simp
end RelA
section
attribute [local go_sem ↓] Go.wp_at_zero Go.wp_at_succ RelA.execOp_load_rows
attribute [local go_sem] RelA.run_loadRows RelA.run_equalIn_rows
set_option maxRecDepth 20000 in
set_option maxHeartbeats 800000 in
theorem loops_gen (b n : Nat) (R P : Nat → Nat) (w : World) (hb : At w b n R) (hR : ∀ i, R i < 2 ^ 40) (htab : Tab w) (hPe : plusR R = P) :
    Calls Tryd.prog 8 #[.pointer (some ⟨b, 0, none⟩)] w fun e w' => e = .returned (.bool (loopsB P)) ∧ Below w.heap.size w w' := by
  have HC := Lib.hid (plus_any b n R w hb hR htab)
  have hP := Lib.hid (plusR_lt R)
  rw [hPe] at HC hP
  clear hR hb htab hPe
  go_enter Tryd.func8, Tryd.ntmps8
  go_wp2_with fail
  refine HC.out.mono ?_
  rintro e w1 ⟨c, rfl, hc, hat, hbe⟩
  have HAT := Lib.hid hat
  clear hat
  go_wp2_with ((with_reducible refine wpList_load_rows rfl _ rfl c n P rfl HAT.out ?_))
  go_loop [10] (fun i => ∃ k : Nat, k ≤ 40 ∧ i = .int .i64 k ∧ Hid (∀ j, j < k → (P j).testBit j = false)) (fun i => 40 - (intOf i).toNat)
  case atStart => exact ⟨0, Nat.zero_le _, rfl, fun j hj => absurd hj (by omega)⟩
  case round =>
    obtain ⟨k, hk, rfl, hno⟩ := hrel
    by_cases hlt : k < 40
    · have hix := run_index_rows P k hlt
      have hdk : decide ((k : Int) < 40) = true := by simp; omega
      have hb := bit_and (P k) k (lt64 (hP.out k))
      cases hbit : (P k).testBit k
      · rw [hbit] at hb
        have HBIT := Lib.hid hbit
        clear hbit
        go_wp2_with fail
        go_round
        case rel =>
          refine ⟨k + 1, by omega, by go_num, ?_⟩
          intro j hj
          by_cases e : j = k
          · subst e; exact HBIT.out
          · exact hno.out j (by omega)
        case measure => simp [intOf]; omega
      · rw [hbit] at hb
        have HBIT := Lib.hid hbit
        clear hbit
        have HF := Lib.hid ((loopsB_iff P).2 ⟨k, hlt, HBIT.out⟩)
        go_wp2_with fail
        go_ret
        exact ⟨by rw [HF.out]; rfl, hbe⟩
    · have hk40 : k = 40 := by omega
      have HF : Hid (loopsB P = false) := by
        show loopsB P = false
        rw [← Bool.not_eq_true, loopsB_iff]
        rintro ⟨i, hi, hbi⟩
        rw [hno.out i (by omega)] at hbi; cases hbi
      have hk2 : 40 ≤ k := by omega
      clear hk40
      go_wp2_with fail
      go_ret
      exact ⟨by rw [HF.out]; rfl, hbe⟩
end
theorem loops_any (b n : Nat) (R : Nat → Nat) (w : World) (hb : At w b n R) (hR : ∀ i, R i < 2 ^ 40) (htab : Tab w) :
    Calls Tryd.prog 8 #[.pointer (some ⟨b, 0, none⟩)] w fun e w' => e = .returned (.bool (loopsB (plusR R))) ∧ Below w.heap.size w w' :=
  loops_gen b n R _ w hb hR htab rfl
theorem RelA.and127 (z : Int) : ∃ k : Nat, k < 128 ∧ bits .and .i64 z 127 = (k : Int) := by
  refine ⟨(BitVec.ofInt 64 z).toNat &&& 127, ?_, ?_⟩
  · have : (BitVec.ofInt 64 z).toNat &&& 127 ≤ 127 := Nat.and_le_right
    omega
  · show IntKind.i64.wrap ((BitVec.ofInt 64 z &&& BitVec.ofInt 64 127).toNat : Int) = _
    have e : (BitVec.ofInt 64 127).toNat = 127 := by decide
    rw [BitVec.toNat_and, e, IntKind.wrap_i64]
    have : (BitVec.ofInt 64 z).toNat &&& 127 ≤ 127 := Nat.and_le_right
    omega
set_option maxRecDepth 20000 in
set_option maxHeartbeats 800000 in
theorem ones_any (x : Nat) (w : World) :
    Calls Tryd.prog 18 #[.int .u64 x] w fun e w' => (∃ k : Nat, k < 128 ∧ e = .returned (.int .i64 k)) ∧ w = w' := by
  go_enter Tryd.func18, Tryd.ntmps18
  go_wp2_with fail
  go_ret
  refine ⟨?_, rfl⟩
  show ∃ k : Nat, k < 128 ∧ Ending.returned (Value.int .i64 (bits .and .i64 _ 127)) = _
  obtain ⟨k, hk, he⟩ := and127 _
  exact ⟨k, hk, by rw [he]⟩
end Go.Proofs.YtgpkdhbegkhjjaaDoor
namespace Go.Proofs.YtgpkdhbegkhjjaaDoor
open Go.RowKit RelA
namespace RelA
theorem ctz_low (x : Nat) (h0 : x ≠ 0) (hx : x < 2 ^ 64) (j : Nat) (hj : j < Lib.ctz 64 x) : x.testBit j = false := by
  obtain ⟨m, hm, hk⟩ := Lib.ctzFrom_spec 64 x (by omega) hx
  have e : Lib.ctz 64 x = Lib.ctzFrom 64 x := by simp [Lib.ctz, h0]
  rw [e] at hj
  generalize Lib.ctzFrom 64 x = k at *
  rw [hm, Nat.testBit_two_pow_mul]
  have : ¬ k ≤ j := by omega
  simp [this]
def bitList (x : Nat) : List Nat := (List.range 40).filter fun j => x.testBit j
theorem bitList_zero : bitList 0 = [] := by unfold bitList; simp
theorem bitList_step (x : Nat) (h0 : x ≠ 0) (hx : x < 2 ^ 40) : bitList x = Lib.ctz 64 x :: bitList (x &&& (x - 1)) := by
  have hz := ctz_lt40 x h0 hx
  have hb := ctz_bits x h0 (by omega)
  have hl := ctz_low x h0 (by omega)
  generalize Lib.ctz 64 x = z at *
  unfold bitList
  have hr : List.range 40 = List.range' 0 z ++ (z :: List.range' (z + 1) (40 - z - 1)) := by
    rw [List.range_eq_range']
    have e1 : (40 : Nat) = z + ((40 - z - 1) + 1) := by omega
    have := List.range'_append_1 (s := 0) (m := z) (n := (40 - z - 1) + 1)
    rw [Nat.zero_add, List.range'_succ] at this
    rw [this]
    congr 1
  rw [hr, List.filter_append, List.filter_append, List.filter_cons, List.filter_cons]
  have f1 : (List.range' 0 z).filter (fun j => x.testBit j) = [] := by
    rw [List.filter_eq_nil_iff]
    intro a ha
    have := List.mem_range'_1.1 ha
    rw [hl a (by omega)]; simp
  have f2 : (List.range' 0 z).filter (fun j => (x &&& (x - 1)).testBit j) = [] := by
    rw [List.filter_eq_nil_iff]
    intro a ha
    have := List.mem_range'_1.1 ha
    rw [(hb a).1, hl a (by omega)]; simp
  rw [f1, f2, (hb 0).2, (hb z).1]
  simp only [List.nil_append, if_true, ne_eq, not_true_eq_false, decide_false, Bool.and_false, Bool.false_eq_true, if_false, List.cons.injEq, true_and]
  apply List.filter_congr
  intro a ha
  have := List.mem_range'_1.1 ha
  rw [(hb a).1]
  have : a ≠ z := by omega
  simp [this]
def rowPairs (i x : Nat) : List (Nat × Nat) := (bitList x).map fun j => (i, j)
def pre (R : Nat → Nat) (k : Nat) : List (Nat × Nat) := (List.range k).flatMap fun i => rowPairs i (R i)
def pairsR (R : Nat → Nat) : List (Nat × Nat) := pre R 40
theorem pre_succ (R : Nat → Nat) (k : Nat) : pre R (k + 1) = pre R k ++ rowPairs k (R k) := by
  unfold pre; rw [List.range_succ, List.flatMap_append]; simp
theorem rowPairs_len (i x : Nat) : (rowPairs i x).length ≤ 40 := by
  unfold rowPairs bitList
  rw [List.length_map]
  have := List.length_filter_le (fun j => x.testBit j) (List.range 40)
  simpa using this
theorem pre_len (R : Nat → Nat) (k : Nat) : (pre R k).length ≤ 40 * k := by
  induction k with
  | zero => simp [pre]
  | succ k ih =>
    rw [pre_succ, List.length_append]
    have := rowPairs_len k (R k)
    omega
def pairCells (l : List (Nat × Nat)) : List Value := l.flatMap fun p => [.int .i64 p.1, .int .i64 p.2]
theorem pairCells_snoc (l : List (Nat × Nat)) (a b : Nat) : pairCells (l ++ [(a, b)]) = pairCells l ++ [.int .i64 a, .int .i64 b] := by
  unfold pairCells; rw [List.flatMap_append]; rfl
theorem info37 : (Tryd.prog.info? 40).map (fun i => (i.zero, i.size, i.bytes)) = some (some (.agg #[.int .i64 0, .int .i64 0]), 2, 16) := by kernel_rfl
end RelA

set_option maxRecDepth 20000 in
set_option maxHeartbeats 1600000 in
theorem pairs_any (b n : Nat) (R : Nat → Nat) (w : World) (hb : At w b n R) (hR : ∀ i, R i < 2 ^ 40) (htab : Tab w) :
    Calls Tryd.prog 7 #[.pointer (some ⟨b, 0, none⟩)] w fun e w' => ∃ v, e = .returned v ∧ w'.ownsRow w.heap.size 40 2 v (pairsR R).length (pairCells (pairsR R)) ∧ Below w.heap.size w w' := by
  have HR := Lib.hid hR
  have HB := Lib.hid hb
  have HTAB := Lib.hid htab
  clear hR hb htab
  obtain ⟨i0, hi, hz0, hz1, hz2⟩ := info_parts info37
  go_enter Tryd.func7, Tryd.ntmps7
  go_wp2_with ((with_reducible refine wpList_load_rows rfl _ rfl b n R rfl HB.out ?_))
  go_loop [3, 13] (fun s i => ∃ k N : Nat, k ≤ 40 ∧ N ≤ 128 * k ∧ s = .int .i64 N ∧ i = .int .i64 k) (fun _ i => 40 - (intOf i).toNat)
  case atStart => exact ⟨0, 0, by omega, by omega, rfl, rfl⟩
  case round =>
    obtain ⟨k, N, hk, hN, rfl, rfl⟩ := hrel
    by_cases hlt : k < 40
    · have hix := run_index_rows R k hlt
      go_wp2_with fail
      refine (ones_any (R k) _).mono ?_
      rintro e w' ⟨⟨q, hq, rfl⟩, rfl⟩
      go_wp2_with fail
      go_round
      case rel => exact ⟨k + 1, N + q, by omega, by omega, by go_num, by go_num⟩
      case measure => simp [intOf]; omega
    · go_wp2_with (first
        | (at_make; refine wpList_make_own _ rfl _ _ 26 rfl w.heap.size 40 i0 (.agg #[.int .i64 0, .int .i64 0]) 2 Tryd.underlying26 hi hz0 hz1 .i64 .i64 _ N rfl rfl (by rfl) (by rw [hz2]; omega) (by unfold maxLen; omega) (Nat.le_refl _) ?_; intro w0 hown0 hgrow0; have HBW : Hid (Below w.heap.size w w0) := (Below.refl _ _).grown hgrow0 (Nat.le_refl _) (fun k h => by cases h))
        | (with_reducible refine wpList_load_rows rfl _ rfl b n R rfl (HB.out.below HBW.out HB.out.lt) ?_))
      go_loopw [6, 27] (fun v i wr => ∃ k : Nat, k ≤ 40 ∧ i = .int .i64 k ∧ wr.ownsRow w.heap.size 40 2 v (pre R k).length (pairCells (pre R k)) ∧ Below w.heap.size w wr) (fun _ i _ => 40 - (intOf i).toNat)
      case atStart => exact ⟨0, Nat.zero_le _, rfl, hown0, HBW.out⟩
      case round =>
        obtain ⟨k, hk, rfl, hown, hbe⟩ := hrel
        by_cases hlt : k < 40
        · obtain ⟨wo, rfl⟩ : ∃ wo : World, wo = wr := ⟨_, rfl⟩
          have hix := run_index_rows R k hlt
          have hdk : decide ((k : Int) < 40) = true := by simp; omega
          have HOWN := Lib.hid hown
          have HPL := Lib.hid (pre_len R (k + 1))
          clear hown
          go_wp2_with fail
          go_loopw [6, 8] (fun v x wi => ∃ (y : Nat) (L : List (Nat × Nat)), y < 2 ^ 40 ∧ x = .int .u64 y ∧ Hid (L ++ rowPairs k y = pre R (k + 1)) ∧ wi.ownsRow w.heap.size 40 2 v L.length (pairCells L) ∧ Below w.heap.size w wi) (fun _ x _ => (intOf x).toNat)
          case atStart => exact ⟨R k, pre R k, HR.out k, rfl, (show _ = _ from (pre_succ R k).symm), HOWN.out, hbe⟩
          case round =>
            obtain ⟨y, L, hy, rfl, hL, hown, hbi⟩ := hrel
            by_cases hy0 : y = 0
            · subst hy0
              have HOWNI := Lib.hid hown
              clear hown
              go_wp2_with fail
              go_roundw
              case rel =>
                refine ⟨k + 1, by omega, by go_num, ?_, hbi⟩
                have h1 := hL.out
                unfold rowPairs at h1
                rw [bitList_zero, List.map_nil, List.append_nil] at h1
                rw [← h1]; exact HOWNI.out
              case measure => simp [intOf]; omega
            · have hyb : ((y : Int) != 0) = true := by simpa using hy0
              have hy1 : 1 ≤ y := by omega
              have hz := ctz_lt40 y hy0 hy
              have HTZ := Lib.hid (tz_any y wr (HTAB.out.below hbi (Nat.lt_of_le_of_lt (Nat.zero_le _) HB.out.lt)) hy0 (lt64 hy))
              have HOWNI := Lib.hid hown
              have HY0 := Lib.hid hy0
              have hand : bits .and .u64 (y : Int) ((y : Int) - 1) = ((y &&& (y - 1) : Nat) : Int) := by
                have := bits_and_u64_nat y (y - 1) (lt64 hy) (by omega)
                rwa [Int.ofNat_sub hy1] at this
              have HST : Hid (rowPairs k y = (k, Lib.ctz 64 y) :: rowPairs k (y &&& (y - 1))) := by
                show _ = _
                unfold rowPairs; rw [bitList_step y hy0 hy]; rfl
              have hLlen : L.length + 1 ≤ 1640 := by
                have h1 := congrArg List.length hL.out
                have h2 := HPL.out
                have h3 := HST.out
                rw [List.length_append, h3, List.length_cons] at h1
                omega
              clear hown hy0
              generalize Lib.ctz 64 y = z at *
              have hsz := hbi.size
              go_wp2_with fail
              refine HTZ.out.mono ?_
              rintro e w' ⟨rfl, rfl⟩
              go_wp2_with (first
                | (at_builtin; refine wpList_append_own _ rfl (.tmp 37) (.tmp 42) 26 rfl w.heap.size 40 i0 (.agg #[.int .i64 0, .int .i64 0]) 2 16 Tryd.underlying26 hi hz0 hz1 hz2 rfl (by decide) _ _ _ rfl (HOWNI.out.alloc _) ⟨wr.heap.size, 0, none⟩ 1 1 [.int .i64 k, .int .i64 z] rfl rfl (World.news_of_block (cs := #[.int .i64 k, .int .i64 z]) (t := 40) (fr := (0, 0)) (heap_alloc_new wr _)) (by simp [Value.oneCell']) (by unfold maxLen; omega) (by omega) (by simp; omega) ?_; intro v1 w1 hown1 hgrow1 hnil1; have HO1 := Lib.hid hown1; have HG1 := Lib.hid hgrow1; clear hown1 hgrow1 hnil1))
              go_roundw
              case rel =>
                refine ⟨y &&& (y - 1), L ++ [(k, z)], ?_, rfl, ?_, ?_, ?_⟩
                · exact Nat.lt_of_lt_of_le (clear_lt y HY0.out) (by omega)
                · show _ = _
                  rw [← hL.out, HST.out, List.append_assoc]; rfl
                · rw [List.length_append, pairCells_snoc]; exact HO1.out
                · exact (hbi.alloc hsz _).grown HG1.out (by simp; omega) (fun j hj => (HOWNI.out.lt j hj).1)
              case measure =>
                have := clear_lt y HY0.out
                simp [intOf]; omega
        · have hk40 : k = 40 := by omega
          have HK := Lib.hid hk40
          have HOWN := Lib.hid hown
          clear hk40 hown
          go_wp2_with fail
          go_ret
          refine ⟨_, rfl, ?_, hbe⟩
          have := HOWN.out
          rw [HK.out] at this
          exact this
end Go.Proofs.YtgpkdhbegkhjjaaDoor
namespace Go.Proofs.YtgpkdhbegkhjjaaDoor
open Go.RowKit RelA
namespace RelA
def buildRel (x y : Value) : Sem Next := do pure (.value (← Instr.build 47 #[(0, x), (1, y)]))
theorem execOp_build_rel (a : Act) (dst : Option Tmp) (x y : Operand) (ty : TypeId) (pos : String) (after : Array Edge) (guard : Option (Nat × Bool)) :
    execOp a.eval { dst, op := .build 47 #[(0, x), (1, y)], type := ty, pos, after, guard } = buildRel (a.eval x) (a.eval y) := by
  simp [execOp, buildRel]
def relV (n : Int) (xs : Array Value) : Array Value := #[Value.int .i64 n] ++ xs
theorem relV_rows (n : Nat) (R : Nat → Nat) : relV n (rowsOf R) = cells n R := by
  unfold relV rowsOf cells
  apply Array.ext'
  simp
theorem run_buildRel (n : Int) (xs : Array Value) (w : World) (h : IsRows xs) : (buildRel (.int .i64 n) (.agg xs)).run Tryd.prog w = .ok (.value (.agg (relV n xs))) w := by
  obtain ⟨R, rfl⟩ := h
  unfold buildRel
  rw [Sem.run_bind]
  have : (Instr.build 47 #[(0, .int .i64 n), (1, .agg (rowsOf R))]).run Tryd.prog w = .ok (.agg (relV n (rowsOf R))) w := by kernel_rfl
  rw [this]; rfl
end RelA

section
attribute [local go_sem ↓] Go.wp_at_zero Go.wp_at_succ RelA.execOp_load_rows RelA.execOp_build_rel
attribute [local go_sem] RelA.run_loadRows RelA.run_buildRel
end
end Go.Proofs.YtgpkdhbegkhjjaaDoor
namespace Go.Proofs.YtgpkdhbegkhjjaaDoor
open Go.RowKit RelA
namespace RelA
theorem newR_nil (n : Nat) : newR n [] = fun _ => 0 := rfl
end RelA
set_option maxRecDepth 20000 in
set_option maxHeartbeats 800000 in
theorem new_nil (n : Int) (w : World) :
    Calls Tryd.prog 22 #[.int .i64 n, .slice none 0 0] w fun e w' => e = .returned (.pointer (some ⟨w.heap.size, 0, none⟩)) ∧ At w' w.heap.size (clampN n) (fun _ => 0) ∧ Below w.heap.size w w' := by
  go_enter Tryd.func22, Tryd.ntmps22
  go_wp2_with fail
  all_goals
    go_loopw [15] (fun i wr => i = .int .i64 0 ∧ At wr w.heap.size (clampN n) (fun _ => 0) ∧ Below w.heap.size w wr) (fun i _ => 0)
    case atStart =>
      exact ⟨rfl, zero_at' w _ _ (by unfold clampN; omega), (Below.refl _ _).alloc (Nat.le_refl _) _⟩
    case round =>
      obtain ⟨rfl, hat, hbe⟩ := hrel
      have HAT := Lib.hid hat
      clear hat
      go_wp2_with fail
      go_ret
      exact ⟨rfl, HAT.out, hbe⟩

namespace RelA
theorem max2_int (k k2 : IntKind) (x y : Int) : Builtin.max2 (.int k x) (.int k2 y) = pure (.int k (max x y)) := by
  show pure (Value.int k (if y > x then y else x)) = _
  by_cases h : y > x
  · rw [if_pos h]; congr 2; omega
  · rw [if_neg h]; congr 2; omega
theorem min2_int (k k2 : IntKind) (x y : Int) : Builtin.min2 (.int k x) (.int k2 y) = pure (.int k (min x y)) := by
  show pure (Value.int k (if y < x then y else x)) = _
  by_cases h : y < x
  · rw [if_pos h]; congr 2; omega
  · rw [if_neg h]; congr 2; omega
def maxOp (x y : Value) : Sem Next := do pure (.value (← Builtin.max2 x y))
def minOp (x y : Value) : Sem Next := do pure (.value (← Builtin.min2 x y))
theorem execOp_max (a : Act) (dst : Option Tmp) (x y : Operand) (ty : TypeId) (pos : String) (after : Array Edge) (guard : Option (Nat × Bool)) :
    execOp a.eval { dst, op := .call { callee := .builtin .max, args := #[x, y], argTypes := #[3, 3] }, type := ty, pos, after, guard } = maxOp (a.eval x) (a.eval y) := by
  simp [execOp, resolve, invoke, builtin, Builtin.max_, maxOp]
theorem execOp_min (a : Act) (dst : Option Tmp) (x y : Operand) (ty : TypeId) (pos : String) (after : Array Edge) (guard : Option (Nat × Bool)) :
    execOp a.eval { dst, op := .call { callee := .builtin .min, args := #[x, y], argTypes := #[3, 3] }, type := ty, pos, after, guard } = minOp (a.eval x) (a.eval y) := by
  simp [execOp, resolve, invoke, builtin, Builtin.min_, minOp]
theorem run_maxOp {P : Program} (k k2 : IntKind) (x y : Int) (w : World) : (maxOp (.int k x) (.int k2 y)).run P w = .ok (.value (.int k (max x y))) w := by
  unfold maxOp; rw [max2_int]; rfl
theorem run_minOp {P : Program} (k k2 : IntKind) (x y : Int) (w : World) : (minOp (.int k x) (.int k2 y)).run P w = .ok (.value (.int k (min x y))) w := by
  unfold minOp; rw [min2_int]; rfl
theorem clamp_eq (n : Int) : min (max n 0) 40 = (clampN n : Int) := by unfold clampN; omega
end RelA
namespace RelA
theorem At.next {w w' : World} {b n : Nat} {R : Nat → Nat} (h : At w b n R) (hb : Below w.heap.size w w') : At w' b n R := h.below hb h.lt
theorem Tab.pos {w : World} (h : Tab w) : 0 < w.heap.size := block_lt_of_cell (h 0 (by decide))
theorem Tab.next {w w' : World} (h : Tab w) (hb : Below w.heap.size w w') : Tab w' := h.below hb h.pos
theorem below_next {w w1 w2 : World} (h : Below w.heap.size w w1) (g : Below w1.heap.size w1 w2) : Below w.heap.size w w2 := h.trans (g.mono h.size)
theorem own_len {w : World} {base : Nat} {e : TypeId} {size : Nat} {v : Value} {n : Nat} {xs : List Value} (h : w.ownsRow base e size v n xs) : ∃ a c, v = .slice a n c := by
  obtain ⟨_, h | ⟨g, cap, cur, h, _⟩⟩ := h
  · exact ⟨none, 0, by rw [h.1, h.2]⟩
  · exact ⟨_, _, h⟩
/-- the document's example's two pairs -/
def exR : Nat → Nat := newR 2 [(0, 1), (1, 0)]
theorem exR_lt (i : Nat) : exR i < 2 ^ 40 := Nat.lt_of_lt_of_le (newR_lt 2 _ i) (by decide)
theorem newR_lt40 (n : Nat) (l : List (Int × Int)) (hn : n ≤ 40) (i : Nat) : newR n l i < 2 ^ 40 := Nat.lt_of_lt_of_le (newR_lt n l i) (Nat.pow_le_pow_right (by omega) hn)
theorem ex_loops : loopsB (plusR exR) = true := by
  rw [loopsB_iff]
  refine ⟨0, by decide, ?_⟩
  rw [plusR_bit]
  exact ⟨by decide, .tail (.single (show (exR 0).testBit 1 = true by decide)) (show (exR 1).testBit 0 = true by decide)⟩
theorem zero_plus (i : Nat) : plusR (fun _ => 0) i = 0 := by
  apply Nat.eq_of_testBit_eq
  intro j
  rw [Nat.zero_testBit, ← Bool.not_eq_true, plusR_bit]
  rintro ⟨_, h⟩
  induction h with
  | single h => simp at h
  | tail _ h _ => simp at h
theorem zero_loops : loopsB (plusR fun _ => 0) = false := by
  rw [← Bool.not_eq_true, loopsB_iff]
  rintro ⟨i, _, h⟩
  rw [zero_plus] at h; simp at h
theorem ex_len : (pairsR exR).length = 2 := by decide
theorem ex_has : hasB 2 exR 0 1 = true := by decide
end RelA
end Go.Proofs.YtgpkdhbegkhjjaaDoor
namespace Go.Proofs.YtgpkdhbegkhjjaaDoor
open Go.RowKit RelA
namespace RelA
theorem newR_bit (N : Nat) (l : List (Int × Int)) (i j : Nat) : (newR N l i).testBit j = true ↔ ∃ p ∈ l, inB N p.1 = true ∧ inB N p.2 = true ∧ p.1 = i ∧ p.2 = j := by
  unfold newR
  have key : ∀ (l : List (Int × Int)) (R : Nat → Nat), (l.foldl (newStep N) R i).testBit j = true ↔ (R i).testBit j = true ∨ ∃ p ∈ l, inB N p.1 = true ∧ inB N p.2 = true ∧ p.1 = i ∧ p.2 = j := by
    intro l
    induction l with
    | nil => intro R; simp
    | cons p l ih =>
      intro R
      rw [List.foldl_cons, ih]
      have hstep : (newStep N R p i).testBit j = true ↔ (R i).testBit j = true ∨ (inB N p.1 = true ∧ inB N p.2 = true ∧ p.1 = i ∧ p.2 = j) := by
        unfold newStep
        cases h1 : inB N p.1 <;> cases h2 : inB N p.2 <;> simp only [Bool.and_false, Bool.and_true, Bool.false_eq_true, if_false, if_true, false_and, and_false, or_false, true_and]
        have g1 := of_decide_eq_true h1
        have g2 := of_decide_eq_true h2
        unfold upd
        by_cases e : i = p.1.toNat
        · rw [if_pos e, ← e, Nat.testBit_or, Bool.or_eq_true, Nat.testBit_two_pow, decide_eq_true_eq]
          constructor
          · rintro (h | h)
            · exact .inl h
            · exact .inr ⟨by omega, by omega⟩
          · rintro (h | ⟨_, h⟩)
            · exact .inl h
            · exact .inr (by omega)
        · rw [if_neg e]
          constructor
          · exact .inl
          · rintro (h | ⟨h, _⟩)
            · exact h
            · omega
      rw [hstep]
      constructor
      · rintro ((h | h) | ⟨q, hq, h⟩)
        · exact .inl h
        · exact .inr ⟨p, by simp, h⟩
        · exact .inr ⟨q, by simp [hq], h⟩
      · rintro (h | ⟨q, hq, h⟩)
        · exact .inl (.inl h)
        · rcases List.mem_cons.1 hq with rfl | hq
          · exact .inl (.inr h)
          · exact .inr ⟨q, hq, h⟩
  rw [key]
  simp
/-- pairs of numbers as pairs of integers -/
def castP (l : List (Nat × Nat)) : List (Int × Int) := l.map fun p => ((p.1 : Int), (p.2 : Int))
theorem pairCells_get (l : List (Nat × Nat)) (i : Nat) (hi : i < l.length) : (pairCells l)[i * 2]? = some (.int .i64 ((castP l).getD i (0, 0)).1) ∧ (pairCells l)[i * 2 + 1]? = some (.int .i64 ((castP l).getD i (0, 0)).2) := by
  induction l generalizing i with
  | nil => simp at hi
  | cons p l ih =>
    cases i with
    | zero => exact ⟨rfl, rfl⟩
    | succ i =>
      have := ih i (by simpa using hi)
      have e1 : (i + 1) * 2 = i * 2 + 2 := by omega
      rw [e1]
      exact this
theorem castP_len (l : List (Nat × Nat)) : (castP l).length = l.length := by simp [castP]
end RelA

theorem new_own (n : Int) (base : Nat) (v : Value) (L : List (Nat × Nat)) (w : World) (hown : w.ownsRow base 40 2 v L.length (pairCells L)) :
    Calls Tryd.prog 22 #[.int .i64 n, v] w fun e w' => e = .returned (.pointer (some ⟨w.heap.size, 0, none⟩)) ∧ At w' w.heap.size (clampN n) (newR (clampN n) (castP L)) ∧ Below w.heap.size w w' := by
  obtain ⟨hl, ⟨rfl, h0⟩ | ⟨g, cap, cur, rfl, hg, hcur, hc1, hc2, hc3, hc4⟩⟩ := hown
  · have : L = [] := List.length_eq_zero_iff.1 h0
    subst this
    exact new_nil n w
  · have hget : ∀ j, j < L.length * 2 → w.cell? ⟨g, j, none⟩ = (pairCells L)[j]? := by
      intro j hj
      rw [cell_of_row w g j cur _ _ hcur, ← hc4, List.getElem?_take, if_pos hj]
      simp
    have h := new_some n g 0 (castP L) cap w (by rw [castP_len]; omega) (Array.getElem?_eq_some_iff.1 hcur).1 (fun i hi => by
      rw [castP_len] at hi
      have hp := pairCells_get L i hi
      rw [Nat.zero_add, hget _ (by omega), hget _ (by omega)]
      exact hp)
    rw [castP_len] at h
    exact h
end Go.Proofs.YtgpkdhbegkhjjaaDoor
