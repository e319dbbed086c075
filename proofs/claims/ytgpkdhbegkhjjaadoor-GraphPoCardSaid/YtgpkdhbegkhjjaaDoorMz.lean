/-
  What the functions that the law reaches do, one by one: contracts. Conditions: those that each of them prints.
-/
import Derived.Test.YtgpkdhbegkhjjaaDoorMy
namespace Go.Proofs.YtgpkdhbegkhjjaaDoor
open Go.RowKit RelA
namespace RelA
def sumN (f : Nat → Nat) : Nat → Nat
  | 0 => 0
  | k + 1 => sumN f k + f k
theorem sumN_congr {f g : Nat → Nat} {k : Nat} (h : ∀ i, i < k → f i = g i) : sumN f k = sumN g k := by
  induction k with
  | zero => rfl
  | succ k ih => unfold sumN; rw [ih fun i hi => h i (by omega), h k (by omega)]
theorem sumN_add (f g : Nat → Nat) (k : Nat) : sumN (fun i => f i + g i) k = sumN f k + sumN g k := by
  induction k with
  | zero => rfl
  | succ k ih => unfold sumN; rw [ih]; omega
theorem sumN_one {f : Nat → Nat} (a : Nat) : ∀ b, (∀ i, a ≤ i → i < a + b → f i = 1) → sumN f (a + b) = sumN f a + b
  | 0, _ => rfl
  | b + 1, h => by
    show sumN f (a + b) + f (a + b) = _
    rw [sumN_one a b fun i h1 h2 => h i h1 (by omega), h (a + b) (by omega) (by omega)]; omega
theorem sumN_zero {f : Nat → Nat} (a : Nat) : ∀ b, (∀ i, a ≤ i → i < a + b → f i = 0) → sumN f (a + b) = sumN f a
  | 0, _ => rfl
  | b + 1, h => by
    show sumN f (a + b) + f (a + b) = _
    rw [sumN_zero a b fun i h1 h2 => h i h1 (by omega), h (a + b) (by omega) (by omega)]; rfl
def cR (M : Nat → Nat → Bool) (i N : Nat) : Nat := (rrow M i N).length
theorem cR_succ (M : Nat → Nat → Bool) (i N : Nat) : cR M i (N + 1) = cR M i N + (if M i N = true then 1 else 0) := by
  unfold cR
  cases h : M i N
  · rw [rrow_no M i N h]; simp
  · rw [rrow_yes M i N h]; simp
theorem cR_congr {M S : Nat → Nat → Bool} {i N : Nat} (h : ∀ j, j < N → M i j = S i j) : cR M i N = cR S i N := by
  induction N with
  | zero => rfl
  | succ N ih => rw [cR_succ, cR_succ, ih fun j hj => h j (by omega), h N (by omega)]
theorem rpre_sum (N : Nat) (M : Nat → Nat → Bool) (k : Nat) : (rpre N M k).length = sumN (fun i => cR M i N) k := by
  induction k with
  | zero => rfl
  | succ k ih =>
    have e : rpre N M (k + 1) = rpre N M k ++ rrow M k N := by unfold rpre; rw [List.range_succ, List.flatMap_append]; simp
    rw [e, List.length_append, ih]; rfl
/-- how many pairs the order has -/
def pcount (E : List Ev) : Nat := (rpairs E.length (poM E)).length
theorem at_old (E : List Ev) (e : Ev) {i : Nat} (h : i < E.length) : Ev.at (E ++ [e]) i = Ev.at E i := by
  unfold Ev.at
  rw [List.getD_eq_getElem?_getD, List.getElem?_append_left h, ← List.getD_eq_getElem?_getD]
theorem at_new (E : List Ev) (e : Ev) : Ev.at (E ++ [e]) E.length = e := by
  unfold Ev.at
  rw [List.getD_eq_getElem?_getD, List.getElem?_append_right (Nat.le_refl _)]; simp
theorem poM_old (E : List Ev) (e : Ev) {i j : Nat} (h : j < E.length) : poM (E ++ [e]) i j = poM E i j := by
  unfold poM
  by_cases hi : i < j
  · rw [at_old E e (by omega), at_old E e h]; simp [h, Nat.lt_succ_of_lt h]
  · simp [hi]
theorem poM_new (E : List Ev) (e : Ev) {i : Nat} (h : i < E.length) : poM (E ++ [e]) i E.length = poB (Ev.at E i).th e.th := by
  unfold poM
  rw [at_old E e h, at_new]; simp [h]
theorem poM_back (E : List Ev) {i j : Nat} (h : j ≤ i) : poM E i j = false := by
  unfold poM
  have : ¬ i < j := by omega
  simp [this]
theorem pcount_snoc (E : List Ev) (e : Ev) : pcount (E ++ [e]) = pcount E + sumN (fun i => if poB (Ev.at E i).th e.th = true then 1 else 0) E.length := by
  have hz : ∀ N, N ≤ E.length + 1 → cR (poM (E ++ [e])) E.length N = 0 := by
    intro N
    induction N with
    | zero => intro _; rfl
    | succ N ih => intro h; rw [cR_succ, ih (by omega), poM_back _ (by omega)]; rfl
  unfold pcount rpairs
  rw [rpre_sum, rpre_sum]
  have e1 : (E ++ [e]).length = E.length + 1 := by simp
  rw [e1]
  show sumN _ E.length + cR _ E.length (E.length + 1) = _
  rw [hz _ (Nat.le_refl _), Nat.add_zero, ← sumN_add]
  refine sumN_congr fun i hi => ?_
  rw [cR_succ, cR_congr fun j hj => poM_old E e (i := i) hj, poM_new E e hi]
/-- a graph's events while it is built: the first writes, bars; q of the last thread -/
structure GoodT (L : Nat) (E : List Ev) (t q pc : Nat) : Prop where
  fir : ∀ i, i < L → Ev.at E i = firE i
  low : ∀ i, L ≤ i → i + q < E.length → ∃ s : Nat, s < t ∧ Ev.at E i = barE s
  top : ∀ i, E.length ≤ i + q → i < E.length → Ev.at E i = barE t
  len : L + q ≤ E.length
  mono : ∀ i j, L ≤ i → i ≤ j → j < E.length → (Ev.at E i).th ≤ (Ev.at E j).th
  pc_ : pcount E = pc
theorem GoodT.th {L : Nat} {E : List Ev} {t q pc : Nat} (h : GoodT L E t q pc) {i : Nat} (h1 : L ≤ i) (h2 : i < E.length) : ∃ s : Nat, s ≤ t ∧ Ev.at E i = barE s := by
  by_cases c : i + q < E.length
  · obtain ⟨s, a, b⟩ := h.low i h1 c
    exact ⟨s, by omega, b⟩
  · exact ⟨t, Nat.le_refl _, h.top i (by omega) h2⟩
theorem GoodT.snoc {L : Nat} {E : List Ev} {t q pc : Nat} (h : GoodT L E t q pc) : GoodT L (E ++ [barE t]) t (q + 1) (pc + L + q) := by
  have e1 : (E ++ [barE t]).length = E.length + 1 := by simp
  have hlen := h.len
  refine ⟨fun i hi => by rw [at_old _ _ (by omega)]; exact h.fir i hi, fun i h1 h2 => ?_, fun i h1 h2 => ?_, by omega, fun i j h1 h2 h3 => ?_, ?_⟩
  · rw [e1] at h2
    rw [at_old _ _ (by omega)]
    exact h.low i h1 (by omega)
  · rw [e1] at h1 h2
    by_cases c : i = E.length
    · subst c; exact at_new _ _
    · rw [at_old _ _ (by omega)]; exact h.top i (by omega) (by omega)
  · rw [e1] at h3
    by_cases c : j = E.length
    · subst c
      rw [at_new]
      by_cases d : i = E.length
      · subst d; rw [at_new]; exact Int.le_refl _
      · rw [at_old _ _ (by omega)]
        obtain ⟨s, a, b⟩ := h.th h1 (by omega)
        rw [b]; simp [barE]; omega
    · rw [at_old _ _ (by omega), at_old _ _ (by omega)]; exact h.mono i j h1 h2 (by omega)
  · rw [pcount_snoc, h.pc_]
    have s1 : sumN (fun i => if poB (Ev.at E i).th (barE t).th = true then 1 else 0) E.length = L + q := by
      obtain ⟨m, hm⟩ : ∃ m, E.length = (L + m) + q := ⟨E.length - L - q, by omega⟩
      rw [hm, sumN_one (L + m) q, sumN_zero L m]
      · have : sumN (fun i => if poB (Ev.at E i).th (barE t).th = true then 1 else 0) (0 + L) = 0 + L := sumN_one 0 L fun i _ hi => by
          rw [h.fir i (by omega), if_pos]
          simp [poB, firE, barE]; omega
        rw [Nat.zero_add] at this
        omega
      · intro i h1 h2
        obtain ⟨s, a, b⟩ := h.low i h1 (by omega)
        rw [b, if_neg]
        simp [poB, barE]; omega
      · intro i h1 h2
        rw [h.top i (by omega) (by omega), if_pos]
        simp [poB, barE]; omega
    rw [s1]; omega
theorem GoodT.next {L : Nat} {E : List Ev} {t q pc : Nat} (h : GoodT L E t q pc) : GoodT L E (t + 1) 0 pc := by
  refine ⟨h.fir, fun i h1 h2 => ?_, fun i h1 h2 => absurd h2 (by omega), by have := h.len; omega, h.mono, h.pc_⟩
  obtain ⟨s, a, b⟩ := h.th h1 (by omega)
  exact ⟨s, by omega, b⟩
theorem fir_at {L : Nat} {E : List Ev} (hl : E.length = L) (h : ∀ i, i < L → Ev.at E i = firE i) : GoodT L E 0 0 0 := by
  refine ⟨h, fun i h1 h2 => absurd h2 (by omega), fun i h1 h2 => absurd h2 (by omega), by omega, fun i j h1 h2 h3 => by omega, ?_⟩
  have hz : ∀ N, N ≤ L → ∀ i, cR (poM E) i N = 0 := by
    intro N
    induction N with
    | zero => intro _ _; rfl
    | succ N ih =>
      intro hN i
      rw [cR_succ, ih (by omega), if_neg]
      by_cases c : i < N
      · unfold poM
        rw [h i (by omega), h N (by omega)]
        simp [poB, firE]
      · rw [poM_back _ (by omega)]; decide
  unfold pcount rpairs
  rw [rpre_sum, hl]
  have : ∀ k, sumN (fun i => cR (poM E) i L) k = 0 := by
    intro k
    induction k with
    | zero => rfl
    | succ k ih => show sumN _ k + cR (poM E) k L = 0; rw [ih, hz L (Nat.le_refl _)]
  exact this L
/-- half of n * (n - 1) -/
def tri : Nat → Nat
  | 0 => 0
  | q + 1 => tri q + q
theorem tri2 (n : Nat) : (n : Int) * ((n : Int) - 1) = 2 * (tri n : Int) := by
  induction n with
  | zero => rfl
  | succ n ih =>
    show ((n + 1 : Nat) : Int) * (((n + 1 : Nat) : Int) - 1) = 2 * ((tri n + n : Nat) : Int)
    have e : (((n + 1 : Nat) : Int) - 1) = n := by omega
    rw [e, Int.natCast_add, Int.natCast_add, Int.mul_add, ← ih, Int.add_mul, Int.mul_sub]
    simp; omega
theorem po_up {E : List Ev} {i j : Nat} (h : poM E i j = true) : i < j := by
  unfold poM at h
  simp only [Bool.and_eq_true, decide_eq_true_eq] at h
  exact h.1.1
theorem po_path {E : List Ev} {i j : Nat} (h : MPath (poM E) i j) : i < j := by
  induction h with
  | single h => exact po_up h
  | tail _ h ih => exact Nat.lt_trans ih (po_up h)
theorem po_trans {L : Nat} {E : List Ev} {t q pc : Nat} (g : GoodT L E t q pc) {i j k : Nat} (h1 : poM E i j = true) (h2 : poM E j k = true) : poM E i k = true := by
  have a := po_up h1
  have b := po_up h2
  have hk : k < E.length := (wf_po E j k h2).2
  have hth : ∀ x, x < E.length → (x < L ∧ (Ev.at E x).th = 0) ∨ (L ≤ x ∧ 0 < (Ev.at E x).th) := fun x hx => by
    by_cases c : x < L
    · exact .inl ⟨c, by rw [g.fir x c]; rfl⟩
    · obtain ⟨s, _, e⟩ := g.th (i := x) (by omega) hx
      exact .inr ⟨by omega, by rw [e]; simp [barE] <;> omega⟩
  have t1 := hth i (by omega)
  have t2 := hth j (by omega)
  have t3 := hth k hk
  unfold poM poB at h1 h2 ⊢
  simp only [Bool.and_eq_true, Bool.or_eq_true, decide_eq_true_eq, beq_iff_eq, bne_iff_ne, ne_eq] at h1 h2 ⊢
  refine ⟨⟨by omega, hk⟩, ?_⟩
  omega
theorem po_plus {L : Nat} {E : List Ev} {t q pc : Nat} (g : GoodT L E t q pc) {i j : Nat} (h : plusM (poM E) i j = true) : poM E i j = true := by
  rw [plusM_iff] at h
  induction h with
  | single h => exact h
  | tail _ h ih => exact po_trans g ih h
theorem lk_join {R S : Nat → Nat} {M T : Nat → Nat → Bool} (h : Lk R M) (g : Lk S T) (hs : ∀ i j, M i j = true → T i j = true) (i : Nat) : R i ||| S i = S i := by
  refine Nat.eq_of_testBit_eq fun j => ?_
  rw [Nat.testBit_or]
  cases hr : (R i).testBit j
  · simp
  · have := (g i j).2 (hs i j ((h i j).1 hr))
    simp [this]
end RelA
theorem in_c (b c n : Nat) (M T : Nat → Nat → Bool) (w : World) (h : Rl w b n M) (g : Rl w c n T) (hs : ∀ i j, M i j = true → T i j = true) :
    Calls Tryd.prog 10 #[.pointer (some ⟨b, 0, none⟩), .pointer (some ⟨c, 0, none⟩)] w fun e w' => e = .returned (.bool true) ∧ Below w.heap.size w w' := by
  obtain ⟨⟨R, h1, h2, h3⟩, _⟩ := h
  obtain ⟨⟨S, g1, g2, g3⟩, _⟩ := g
  refine (in_any b n c n R S w h1 g1 h2 g2).mono ?_
  rintro e w' ⟨rfl, hb⟩
  have : inR R S = true := by
    unfold inR
    rw [sameB_iff]
    exact fun i _ => lk_join h3 g3 hs i
  rw [this]
  exact ⟨rfl, hb⟩
theorem loops_c (b n : Nat) (M : Nat → Nat → Bool) (w : World) (h : Rl w b n M) (hn : n ≤ 40) (hs : ∀ a, ¬ MPath M a a) (ht : Tab w) :
    Calls Tryd.prog 8 #[.pointer (some ⟨b, 0, none⟩)] w fun e w' => e = .returned (.bool false) ∧ Below w.heap.size w w' := by
  obtain ⟨⟨R, h1, h2, h3⟩, h4⟩ := h
  refine (loops_any b n R w h1 h2 ht).mono ?_
  rintro e w' ⟨rfl, hb⟩
  have : loopsB (plusR R) = false := by
    cases q : loopsB (plusR R) with
    | false => rfl
    | true => obtain ⟨a, _, p⟩ := (loops_iff2 h3 h4 hn).1 q; exact absurd p (hs a)
  rw [this]
  exact ⟨rfl, hb⟩
theorem pairs_c (b n : Nat) (M : Nat → Nat → Bool) (w : World) (h : Rl w b n M) (hn : n ≤ 40) (ht : Tab w) :
    Calls Tryd.prog 7 #[.pointer (some ⟨b, 0, none⟩)] w fun e w' => ∃ a c, e = .returned (.slice a (rpairs n M).length c) ∧ Below w.heap.size w w' := by
  obtain ⟨⟨R, h1, h2, h3⟩, h4⟩ := h
  refine (pairs_any b n R w h1 h2 ht).mono ?_
  rintro e w' ⟨v, rfl, ho, hb⟩
  obtain ⟨a, c, rfl⟩ := own_len ho
  rw [pairs_eq hn h3 h4]
  exact ⟨a, c, rfl, hb⟩
end Go.Proofs.YtgpkdhbegkhjjaaDoor
