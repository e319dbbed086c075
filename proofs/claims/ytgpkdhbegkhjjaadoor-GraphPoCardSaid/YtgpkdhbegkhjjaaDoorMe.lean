/-
  What the functions that the law reaches do, one by one: contracts. Conditions: those that each of them prints.
-/
import Derived.Test.YtgpkdhbegkhjjaaDoorMb
import Derived.Test.YtgpkdhbegkhjjaaDoorMd
import Derived.Laws.AppendOwnNone
namespace Go.Proofs.YtgpkdhbegkhjjaaDoor
open Go.RowKit RelA
namespace RelA
theorem bits_eq {x y : Nat} (h : ∀ j, x.testBit j = true ↔ y.testBit j = true) : x = y := by
  apply Nat.eq_of_testBit_eq
  intro j
  rw [Bool.eq_iff_iff]; exact h j
theorem back_bit (R : Nat → Nat) (j i : Nat) : (backR R j).testBit i = true ↔ i < 40 ∧ (R i).testBit j = true := by
  unfold backR; rw [testBit_bitsOf]; simp
theorem U_bit40 (S : Nat → Nat) (x i : Nat) (hS : ∀ i, S i < 2 ^ 40) (hx : x < 2 ^ 40) : (U S x).testBit i = true ↔ ∃ j, x.testBit j = true ∧ (S j).testBit i = true := by
  rw [U_bit]
  constructor
  · rintro ⟨_, j, _, h⟩; exact ⟨j, h⟩
  · rintro ⟨j, h1, h2⟩; exact ⟨bit_lt (hS j) h2, j, bit_lt hx h1, h1, h2⟩
theorem or_lt40 {a b : Nat} (h : a < 2 ^ 40) (g : b < 2 ^ 40) : a ||| b < 2 ^ 40 := Nat.or_lt_two_pow h g
theorem path_plus (R : Nat → Nat) (hR : ∀ i, R i < 2 ^ 40) (i j : Nat) : Path (plusR R) i j ↔ Path R i j := by
  constructor
  · intro h
    induction h with
    | single h => exact ((plusR_bit _ _ _).1 h).2
    | tail _ h ih => exact path_trans ih ((plusR_bit _ _ _).1 h).2
  · intro h
    exact .single ((plusR_bit _ _ _).2 ⟨path_lt hR h, h⟩)
theorem alg5 (R : Nat → Nat) (hR : ∀ i, R i < 2 ^ 40) (i : Nat) : plusR (plusR R) i = plusR R i := by
  apply bits_eq
  intro j
  rw [plusR_bit, plusR_bit, path_plus R hR]
theorem path_head {R : Nat → Nat} {i k j : Nat} (h : (R i).testBit k = true) (g : Path R k j) : Path R i j := path_trans (.single h) g
theorem plus_congr {R S : Nat → Nat} (h : ∀ i, R i = S i) : plusR R = plusR S := by
  have : R = S := funext h
  rw [this]
theorem xor_lt40 {a b : Nat} (h : a < 2 ^ 40) (g : b < 2 ^ 40) : a ^^^ b < 2 ^ 40 := Nat.xor_lt_two_pow h g
theorem and_lt40 {a b : Nat} (h : b < 2 ^ 40) : a &&& b < 2 ^ 40 := Nat.and_lt_two_pow _ h
theorem inR_same {R S : Nat → Nat} (h : ∀ i, i < 40 → R i = S i) : inR R S = true := by
  unfold inR; rw [sameB_iff]
  intro i hi
  show R i ||| S i = S i
  rw [h i hi, Nat.or_self]
end RelA
end Go.Proofs.YtgpkdhbegkhjjaaDoor
namespace Go.Proofs.YtgpkdhbegkhjjaaDoor
open Go.RowKit RelA
namespace RelA
/-- the rows of bits and the cells say the same -/
def Lk (R : Nat → Nat) (M : Nat → Nat → Bool) : Prop := ∀ i j, (R i).testBit j = true ↔ M i j = true
theorem rnewM_iff (N : Nat) (l : List (Int × Int)) (i j : Nat) : rnewM N l i j = true ↔ ∃ p ∈ l, inB N p.1 = true ∧ inB N p.2 = true ∧ p.1 = i ∧ p.2 = j := by
  unfold rnewM
  have key : ∀ (l : List (Int × Int)) (M : Nat → Nat → Bool), l.foldl (rstep N) M i j = true ↔ M i j = true ∨ ∃ p ∈ l, inB N p.1 = true ∧ inB N p.2 = true ∧ p.1 = i ∧ p.2 = j := by
    intro l
    induction l with
    | nil => intro M; simp
    | cons p l ih =>
      intro M
      rw [List.foldl_cons, ih]
      have hstep : rstep N M p i j = true ↔ M i j = true ∨ (inB N p.1 = true ∧ inB N p.2 = true ∧ p.1 = i ∧ p.2 = j) := by
        unfold rstep
        cases h1 : inB N p.1 <;> cases h2 : inB N p.2 <;> simp only [Bool.and_false, Bool.and_true, Bool.false_eq_true, if_false, if_true, false_and, and_false, or_false, true_and]
        have g1 := of_decide_eq_true h1
        have g2 := of_decide_eq_true h2
        unfold updM
        by_cases e : i = p.1.toNat ∧ j = p.2.toNat
        · rw [if_pos e]
          simp only [true_iff]
          exact .inr ⟨by omega, by omega⟩
        · rw [if_neg e]
          constructor
          · exact .inl
          · rintro (h | ⟨h, g⟩)
            · exact h
            · exact absurd ⟨by omega, by omega⟩ e
      rw [hstep]
      constructor
      · rintro ((h | h) | ⟨q, hq, h⟩)
        · exact .inl h
        · exact .inr ⟨p, by simp, h⟩
        · exact .inr ⟨q, by simp [hq], h⟩
      · rintro (h | ⟨q, hq, h⟩)
        · exact .inl (.inl h)
        · rcases List.mem_cons.1 hq with rfl | hq
          · exact .inl (.inr h)
          · exact .inr ⟨q, hq, h⟩
  rw [key]
  simp
theorem lk_new (N : Nat) (l : List (Int × Int)) : Lk (newR N l) (rnewM N l) := fun i j => by rw [newR_bit, rnewM_iff]
theorem wf_new (N : Nat) (l : List (Int × Int)) : WFM N (rnewM N l) := by
  intro i j h
  obtain ⟨p, _, h1, h2, h3, h4⟩ := (rnewM_iff N l i j).1 h
  have g1 := of_decide_eq_true h1
  have g2 := of_decide_eq_true h2
  omega
theorem filter_cut (N : Nat) (p : Nat → Bool) (hN : N ≤ 40) (h : ∀ j, p j = true → j < N) : (List.range 40).filter p = (List.range N).filter p := by
  have e : List.range 40 = List.range N ++ List.range' N (40 - N) := by
    rw [List.range_eq_range', List.range_eq_range']
    have := List.range'_append_1 (s := 0) (m := N) (n := 40 - N)
    rw [Nat.zero_add] at this
    rw [this]
    congr 1; omega
  rw [e, List.filter_append]
  have : (List.range' N (40 - N)).filter p = [] := by
    rw [List.filter_eq_nil_iff]
    intro a ha hp
    have := List.mem_range'_1.1 ha
    have := h a hp
    omega
  rw [this, List.append_nil]
theorem pairs_eq {N : Nat} {R : Nat → Nat} {M : Nat → Nat → Bool} (hN : N ≤ 40) (h : Lk R M) (hW : WFM N M) : pairsR R = rpairs N M := by
  have hrow : ∀ i, rowPairs i (R i) = rrow M i N := by
    intro i
    unfold rowPairs bitList rrow
    have e : (fun j => (R i).testBit j) = fun j => M i j := by
      funext j; rw [Bool.eq_iff_iff]; exact h i j
    rw [e, filter_cut N _ hN fun j hj => (hW i j hj).2]
  have hzero : ∀ i, N ≤ i → rrow M i N = [] := by
    intro i hi
    unfold rrow
    have : (List.range N).filter (fun j => M i j) = [] := by
      rw [List.filter_eq_nil_iff]
      intro a _ hp
      have := (hW i a hp).1
      omega
    rw [this]; rfl
  have key : ∀ k, pre R k = if k ≤ N then rpre N M k else rpre N M N := by
    intro k
    induction k with
    | zero => rw [if_pos (Nat.zero_le _)]; rfl
    | succ k ih =>
      rw [pre_succ, ih, hrow]
      by_cases h1 : k + 1 ≤ N
      · rw [if_pos (by omega), if_pos h1, rpre_succ]
      · rw [if_neg h1, hzero k (by omega), List.append_nil]
        by_cases h2 : k ≤ N
        · rw [if_pos h2]; congr 1; omega
        · rw [if_neg h2]
  unfold pairsR rpairs
  rw [key]
  by_cases h1 : 40 ≤ N
  · rw [if_pos h1]; congr 1; omega
  · rw [if_neg h1]
theorem rfull_iff (N : Nat) (F : Nat → Nat → Bool) (i j : Nat) : rfull N F i j = true ↔ i < N ∧ j < N ∧ F i j = true := by
  unfold rfull; simp [and_assoc]
theorem wf_full (N : Nat) (F : Nat → Nat → Bool) : WFM N (rfull N F) := fun i j h => by
  have := (rfull_iff N F i j).1 h
  omega
theorem lk_or {n m : Nat} {R S : Nat → Nat} {M T : Nat → Nat → Bool} (h : Lk R M) (g : Lk S T) (hW : WFM n M) (gW : WFM m T) : Lk (fun i => R i ||| S i) (rfull (max n m) fun i j => M i j || T i j) := by
  intro i j
  rw [rfull_iff, Nat.testBit_or, Bool.or_eq_true, Bool.or_eq_true, h i j, g i j]
  constructor
  · rintro (a | a)
    · have := hW i j a; exact ⟨by omega, by omega, .inl a⟩
    · have := gW i j a; exact ⟨by omega, by omega, .inr a⟩
  · exact fun a => a.2.2
theorem lk_and {n m : Nat} {R S : Nat → Nat} {M T : Nat → Nat → Bool} (h : Lk R M) (g : Lk S T) (hW : WFM n M) : Lk (fun i => R i &&& S i) (rfull (max n m) fun i j => M i j && T i j) := by
  intro i j
  rw [rfull_iff, Nat.testBit_and, Bool.and_eq_true, Bool.and_eq_true, h i j, g i j]
  constructor
  · rintro ⟨a, b⟩
    have := hW i j a; exact ⟨by omega, by omega, a, b⟩
  · exact fun a => a.2.2
theorem lk_less {n m : Nat} {R S : Nat → Nat} {M T : Nat → Nat → Bool} (h : Lk R M) (g : Lk S T) (hW : WFM n M) : Lk (fun i => R i ^^^ (R i &&& S i)) (rfull (max n m) fun i j => M i j && !T i j) := by
  intro i j
  have e : (R i ^^^ (R i &&& S i)).testBit j = ((R i).testBit j && !(S i).testBit j) := by
    rw [Nat.testBit_xor, Nat.testBit_and]
    cases (R i).testBit j <;> cases (S i).testBit j <;> rfl
  have e1 : (R i).testBit j = M i j := by rw [Bool.eq_iff_iff]; exact h i j
  have e2 : (S i).testBit j = T i j := by rw [Bool.eq_iff_iff]; exact g i j
  rw [rfull_iff]
  show (R i ^^^ (R i &&& S i)).testBit j = true ↔ _
  rw [e, e1, e2]
  constructor
  · intro a
    have := hW i j (Bool.and_eq_true_iff.1 a).1
    exact ⟨by omega, by omega, a⟩
  · exact fun a => a.2.2
theorem lk_then {n m : Nat} {R S : Nat → Nat} {M T : Nat → Nat → Bool} (h : Lk R M) (g : Lk S T) (hW : WFM n M) (gW : WFM m T) (hR : ∀ i, R i < 2 ^ 40) (hS : ∀ i, S i < 2 ^ 40) : Lk (fun i => U S (R i)) (thenM (max n m) M T) := by
  intro i j
  show (U S (R i)).testBit j = true ↔ _
  rw [U_bit40 S _ _ hS (hR i)]
  unfold thenM
  rw [rfull_iff, List.any_eq_true]
  constructor
  · rintro ⟨k, a, b⟩
    have a2 := (h i k).1 a
    have b2 := (g k j).1 b
    have := hW _ _ a2
    have := gW _ _ b2
    exact ⟨by omega, by omega, k, List.mem_range.2 (by omega), by rw [a2, b2]; rfl⟩
  · rintro ⟨_, _, k, _, a⟩
    have a := Bool.and_eq_true_iff.1 a
    exact ⟨k, (h i k).2 a.1, (g k j).2 a.2⟩
theorem lk_back {n : Nat} {R : Nat → Nat} {M : Nat → Nat → Bool} (h : Lk R M) (hW : WFM n M) (hn : n ≤ 40) : Lk (backR R) (fun i j => rfull n M j i) := by
  intro i j
  show (backR R i).testBit j = true ↔ rfull n M j i = true
  rw [back_bit, rfull_iff, h j i]
  constructor
  · rintro ⟨_, a⟩
    have := hW _ _ a
    exact ⟨by omega, by omega, a⟩
  · rintro ⟨a, _, b⟩
    exact ⟨by omega, b⟩
theorem wf_back (n : Nat) (M : Nat → Nat → Bool) : WFM n (fun i j => rfull n M j i) := fun i j h => by
  have := (rfull_iff n M j i).1 h
  omega
theorem path_eq {R : Nat → Nat} {M : Nat → Nat → Bool} (h : Lk R M) (i j : Nat) : Path R i j ↔ MPath M i j := by
  have e : (fun a b => (R a).testBit b = true) = fun a b => M a b = true := by
    funext a b; exact propext (h a b)
  unfold Path MPath
  rw [e]
theorem lk_plus {R : Nat → Nat} {M T : Nat → Nat → Bool} (h : Lk R M) (hT : ∀ i j, T i j = true ↔ MPath M i j) (hR : ∀ i, R i < 2 ^ 40) : Lk (plusR R) T := by
  intro i j
  rw [plusR_bit, hT, path_eq h]
  exact ⟨fun a => a.2, fun a => ⟨path_lt hR ((path_eq h i j).2 a), a⟩⟩
theorem lk_maybe {n : Nat} {R : Nat → Nat} {M : Nat → Nat → Bool} (h : Lk R M) : Lk (fun i => if i < n then R i ||| 2 ^ i else R i) (fun i j => (decide (i = j) && decide (i < n)) || M i j) := by
  intro i j
  show (if i < n then R i ||| 2 ^ i else R i).testBit j = true ↔ ((decide (i = j) && decide (i < n)) || M i j) = true
  rw [Bool.or_eq_true, Bool.and_eq_true, decide_eq_true_eq, decide_eq_true_eq]
  split
  · rename_i hi
    rw [Nat.testBit_or, Bool.or_eq_true, Nat.testBit_two_pow, decide_eq_true_eq, h i j]
    constructor
    · rintro (a | a)
      · exact .inr a
      · exact .inl ⟨a, hi⟩
    · rintro (a | a)
      · exact .inr a.1
      · exact .inl a
  · rename_i hi
    rw [h i j]
    constructor
    · exact .inr
    · rintro (a | a)
      · exact absurd a.2 hi
      · exact a
theorem wf_maybe {n : Nat} {M : Nat → Nat → Bool} (hW : WFM n M) : WFM n (fun i j => (decide (i = j) && decide (i < n)) || M i j) := by
  intro i j a
  have a : ((decide (i = j) && decide (i < n)) || M i j) = true := a
  rw [Bool.or_eq_true, Bool.and_eq_true, decide_eq_true_eq, decide_eq_true_eq] at a
  rcases a with a | a
  · omega
  · exact hW i j a
theorem in_eq {n m : Nat} {R S : Nat → Nat} {M T : Nat → Nat → Bool} (h : Lk R M) (g : Lk S T) (hW : WFM n M) (hn : n ≤ 40) (hm : m ≤ 40) (hR : ∀ i, R i < 2 ^ 40) :
    (((rpairs (max n m) (rfull (max n m) fun i j => M i j && !T i j)).length : Int) == 0) = inR R S := by
  rw [Bool.eq_iff_iff, beq_iff_eq]
  have hl := lk_less (m := m) h g hW
  have hp := pairs_eq (show max n m ≤ 40 by omega) hl (wf_full _ _)
  rw [← hp]
  unfold inR
  rw [sameB_iff]
  have hz : ((pairsR fun i => R i ^^^ (R i &&& S i)).length : Int) = 0 ↔ ∀ i, i < 40 → R i ^^^ (R i &&& S i) = 0 := by
    constructor
    · intro h0 i hi
      have h0 : pairsR (fun i => R i ^^^ (R i &&& S i)) = [] := List.length_eq_zero_iff.1 (by omega)
      unfold pairsR pre at h0
      rw [List.flatMap_eq_nil_iff] at h0
      have h1 := h0 i (List.mem_range.2 hi)
      unfold rowPairs bitList at h1
      rw [List.map_eq_nil_iff, List.filter_eq_nil_iff] at h1
      apply Nat.eq_of_testBit_eq
      intro j
      rw [Nat.zero_testBit, ← Bool.not_eq_true]
      intro hb
      have hj : j < 40 := bit_lt (x := R i ^^^ (R i &&& S i)) (xor_lt40 (hR i) (Nat.lt_of_le_of_lt Nat.and_le_left (hR i))) hb
      exact h1 j (List.mem_range.2 hj) hb
    · intro h0
      have : pairsR (fun i => R i ^^^ (R i &&& S i)) = [] := by
        unfold pairsR pre
        rw [List.flatMap_eq_nil_iff]
        intro i hi
        show rowPairs i (R i ^^^ (R i &&& S i)) = []
        rw [h0 i (List.mem_range.1 hi)]
        unfold rowPairs
        rw [bitList_zero]; rfl
      rw [this]; rfl
  rw [hz]
  have one : ∀ a b : Nat, a ^^^ (a &&& b) = 0 ↔ a ||| b = b := by
    intro a b
    constructor
    · intro h0
      apply Nat.eq_of_testBit_eq
      intro j
      have := congrArg (fun x => Nat.testBit x j) h0
      simp only [Nat.testBit_xor, Nat.testBit_and, Nat.zero_testBit] at this
      rw [Nat.testBit_or]
      revert this
      cases a.testBit j <;> cases b.testBit j <;> simp
    · intro h0
      apply Nat.eq_of_testBit_eq
      intro j
      have := congrArg (fun x => Nat.testBit x j) h0
      simp only [Nat.testBit_or] at this
      rw [Nat.testBit_xor, Nat.testBit_and, Nat.zero_testBit]
      revert this
      cases a.testBit j <;> cases b.testBit j <;> simp
  exact ⟨fun a i hi => (one _ _).1 (a i hi), fun a i hi => (one _ _).2 (a i hi)⟩
theorem loops_iff2 {n : Nat} {R : Nat → Nat} {M : Nat → Nat → Bool} (h : Lk R M) (hW : WFM n M) (hn : n ≤ 40) : loopsB (plusR R) = true ↔ ∃ a, a < n ∧ MPath M a a := by
  rw [loopsB_iff]
  constructor
  · rintro ⟨i, _, a⟩
    have hp := (path_eq h i i).1 ((plusR_bit _ _ _).1 a).2
    have : i < n := by
      cases hp with
      | single a => exact (hW _ _ a).2
      | tail _ a => exact (hW _ _ a).2
    exact ⟨i, this, hp⟩
  · rintro ⟨i, hi, a⟩
    exact ⟨i, by omega, (plusR_bit _ _ _).2 ⟨by omega, (path_eq h i i).2 a⟩⟩
theorem has_eq {n : Nat} {R : Nat → Nat} {M : Nat → Nat → Bool} (h : Lk R M) (a b : Int) : hasB n R a b = hasM n M a b := by
  have e : (R a.toNat).testBit b.toNat = M a.toNat b.toNat := by rw [Bool.eq_iff_iff]; exact h _ _
  unfold hasB hasM inB
  rw [e, Bool.and_assoc]
end RelA
end Go.Proofs.YtgpkdhbegkhjjaaDoor
namespace Go.Proofs.YtgpkdhbegkhjjaaDoor
open Go.RowKit RelA
attribute [local irreducible] RelA.rcells
namespace RelA
/-- a slice of pairs that came in -/
def PIn (w : World) (a : Option Addr) (L : List (Int × Int)) (c : Nat) : Prop :=
  (a = none ∧ L = [] ∧ c = 0) ∨ (∃ ad, a = some ad ∧ L = []) ∨ ∃ b o, a = some ⟨b, o, none⟩ ∧ b < w.heap.size ∧ ∀ i, i < L.length →
    w.cell? ⟨b, o + i * 2, none⟩ = some (.int .i64 (L.getD i (0, 0)).1) ∧ w.cell? ⟨b, o + i * 2 + 1, none⟩ = some (.int .i64 (L.getD i (0, 0)).2)
theorem PIn.next {w w' : World} {a : Option Addr} {L : List (Int × Int)} {c : Nat} (h : PIn w a L c) (hb : Below w.heap.size w w') : PIn w' a L c := by
  rcases h with h | h | ⟨b, o, h1, h2, h3⟩
  · exact .inl h
  · exact .inr (.inl h)
  · exact .inr (.inr ⟨b, o, h1, Nat.lt_of_lt_of_le h2 hb.size, fun i hi => ⟨(hb.cell (p := ⟨b, o + i * 2, none⟩) h2).trans (h3 i hi).1, (hb.cell (p := ⟨b, o + i * 2 + 1, none⟩) h2).trans (h3 i hi).2⟩⟩)
def icells (l : List (Int × Int)) : List Value := l.flatMap fun p => [.int .i64 p.1, .int .i64 p.2]
theorem icells_len (l : List (Int × Int)) : (icells l).length = l.length * 2 := by
  induction l with
  | nil => rfl
  | cons p l ih =>
    show (_ :: _ :: icells l).length = _
    rw [List.length_cons, List.length_cons, ih, List.length_cons]; omega
theorem icells_get (l : List (Int × Int)) (i : Nat) (hi : i < l.length) : (icells l)[i * 2]? = some (.int .i64 (l.getD i (0, 0)).1) ∧ (icells l)[i * 2 + 1]? = some (.int .i64 (l.getD i (0, 0)).2) := by
  induction l generalizing i with
  | nil => simp at hi
  | cons p l ih =>
    cases i with
    | zero => exact ⟨rfl, rfl⟩
    | succ i =>
      have := ih i (by simpa using hi)
      have e1 : (i + 1) * 2 = i * 2 + 2 := by omega
      rw [e1]
      exact this
theorem icells_one (l : List (Int × Int)) (u : Value) (h : u ∈ icells l) : u.oneCell' = true := by
  unfold icells at h
  obtain ⟨p, _, hu⟩ := List.mem_flatMap.1 h
  simp at hu
  rcases hu with rfl | rfl <;> rfl
theorem wpList_copy_pairs {ops : Array Oper} {rest : List Oper} {o : Oper} {a : Act} {w : World} {Q : Exit → Act → World → Prop} (hgd : o.guard = none) (x : Operand)
    (ho : o.op = .call { callee := .builtin .append, args := #[.const (.slice none 0 0), x], argTypes := #[26, 26] }) (a1 : Option Addr) (L : List (Int × Int)) (c : Nat) (hx : a.eval x = .slice a1 L.length c) (hP : PIn w a1 L c) (hl : L.length ≤ 200)
    (h : ∀ v' w', w'.ownsRow w.heap.size 40 2 v' L.length (icells L) → Below w.heap.size w w' → wpList Tryd.prog ops Q rest (a.put o.dst v') w') : wpList Tryd.prog ops Q (o :: rest) a w := by
  obtain ⟨i0, hi, hz0, hz1, hz2⟩ := info_parts info37
  have hown0 : w.ownsRow w.heap.size 40 2 (.slice none 0 0) 0 [] := ⟨rfl, .inl ⟨rfl, rfl⟩⟩
  have hs : a.eval (.const (.slice none 0 0)) = .slice none 0 0 := rfl
  rcases hP with ⟨rfl, rfl, rfl⟩ | hP
  · refine wpList_append_own_none hgd _ x 26 ho w.heap.size 40 i0 2 Tryd.underlying26 hi _ 0 [] hs hown0 hx ?_
    exact h _ _ ⟨rfl, .inl ⟨rfl, rfl⟩⟩ (Below.refl _ _)
  · have main : ∀ ad, a1 = some ad → (∀ j u, (icells L)[j]? = some u → w.cell? (ad.add j) = some u) → wpList Tryd.prog ops Q (o :: rest) a w := by
      rintro ad rfl hc
      refine wpList_append_own w hgd _ x 26 ho w.heap.size 40 i0 (.agg #[.int .i64 0, .int .i64 0]) 2 16 Tryd.underlying26 hi hz0 hz1 hz2 rfl (by decide) _ 0 [] hs hown0 ad L.length c (icells L) hx (icells_len L) hc (icells_one L) (by unfold maxLen; omega) (by omega) (Nat.le_refl _) ?_
      intro v' w' h1 h2 _
      rw [Nat.zero_add, List.nil_append] at h1
      exact h v' w' h1 ((Below.refl _ _).grown h2 (Nat.le_refl _) (fun k hk => by cases hk))
    rcases hP with ⟨ad, rfl, rfl⟩ | ⟨b, off, rfl, hb, hcell⟩
    · exact main ad rfl (fun j u hu => by simp [icells] at hu)
    · refine main _ rfl (fun j u hu => ?_)
      have hj : j < L.length * 2 := by
        have := (List.getElem?_eq_some_iff.1 hu).1
        rwa [icells_len] at this
      have hadd : (⟨b, off, none⟩ : Addr).add j = ⟨b, off + j, none⟩ := by unfold Addr.add; split <;> simp_all
      rw [hadd]
      have h1 := hcell (j / 2) (by omega)
      have h2 := icells_get L (j / 2) (by omega)
      rcases Nat.mod_two_eq_zero_or_one j with e | e
      · have e2 : j / 2 * 2 = j := by omega
        rw [e2] at h1 h2
        rw [h1.1, ← h2.1, hu]
      · have e2 : j / 2 * 2 + 1 = j := by omega
        have e3 : off + j / 2 * 2 + 1 = off + j := by omega
        rw [e2] at h2
        rw [e3] at h1
        rw [h1.2, ← h2.2, hu]
end RelA
theorem new_ownI (n : Int) (base : Nat) (v : Value) (L : List (Int × Int)) (w : World) (hown : w.ownsRow base 40 2 v L.length (icells L)) :
    Calls Tryd.prog 22 #[.int .i64 n, v] w fun e w' => e = .returned (.pointer (some ⟨w.heap.size, 0, none⟩)) ∧ At w' w.heap.size (clampN n) (newR (clampN n) L) ∧ Below w.heap.size w w' := by
  obtain ⟨hl, ⟨rfl, h0⟩ | ⟨g, cap, cur, rfl, hg, hcur, hc1, hc2, hc3, hc4⟩⟩ := hown
  · have : L = [] := List.length_eq_zero_iff.1 h0
    subst this
    exact new_nil n w
  · have hget : ∀ j, j < L.length * 2 → w.cell? ⟨g, j, none⟩ = (icells L)[j]? := by
      intro j hj
      rw [cell_of_row w g j cur _ _ hcur, ← hc4, List.getElem?_take, if_pos hj]
      simp
    exact new_some n g 0 L cap w (by omega) (Array.getElem?_eq_some_iff.1 hcur).1 (fun i hi => by
      have hp := icells_get L i hi
      rw [Nat.zero_add, hget _ (by omega), hget _ (by omega)]
      exact hp)
section
attribute [local go_sem ↓ high] RelA.execOp_max RelA.execOp_min
end
end Go.Proofs.YtgpkdhbegkhjjaaDoor
