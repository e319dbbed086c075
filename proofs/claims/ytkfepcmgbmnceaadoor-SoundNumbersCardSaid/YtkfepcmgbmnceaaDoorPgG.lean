import Derived.Test.YtkfepcmgbmnceaaDoorPgF
namespace Go.Proofs.YtkfepcmgbmnceaaDoor
open Go.RowKit ExprA SndA
namespace SndA
theorem goodE_ok {E : List (Int × Int)} (h : GoodE E) : checkB E = true ∧ E.length ≤ 3 ∧ E ≠ [] := by
  obtain ⟨x, b, hx, hb, h⟩ := h
  rcases (show x = 0 ∨ x = 1 ∨ x = 2 by omega) with rfl | rfl | rfl <;> rcases (show b = 0 ∨ b = 1 ∨ b = 2 by omega) with rfl | rfl | rfl <;> rcases h with rfl | rfl | rfl | rfl | rfl | rfl <;> exact ⟨by decide, by decide, by simp⟩
theorem exprB_good {E : List (Int × Int)} (h : GoodE E) (r : Int) : exprB 9 false r E = true := by
  obtain ⟨h1, h2, _⟩ := goodE_ok h
  have h3 : decide (E.length ≤ 9) = true := by simp; omega
  unfold exprB
  rw [if_neg (by decide), h1, h3]
  rfl
theorem upTo_yes {v most : Int} (h : 0 ≤ v ∧ v ≤ most) : upToB v true most = true := by
  unfold upToB; simp [h]
theorem gi_ok {left : Nat} {i : Ins} (h : GI left i) : instrB i.k i.m i.m2 i.r i.l i.n i.E 2 left = true := by
  obtain ⟨k, m, m2, r, l, n, a, E, c⟩ := i
  rcases h with ⟨h1, h2, h3, h4, h5, h6, h7⟩ | ⟨h1, h2, h3, h4, h5, h6, h7⟩ | ⟨h1, h2, h3, h4, h5, h6, h7⟩ | ⟨h1, h2, h3, h4, h5, h6, ⟨b, hb, h7⟩⟩ | ⟨h1, h2, h3, h4, h5, h6, h7⟩ | ⟨h1, h2, h3, h4, h5, h6, h7⟩ <;> dsimp only at h1 h2 h3 h4 h5 h6 h7 ⊢
  · subst h1 h3 h6 h7
    have a1 : amongB m 3 = true := by rcases h2 with rfl | rfl <;> decide
    show (amongB m 3 && (amongB 0 1 && (upToB r true 7 && (upToB l true (locTop 2) && (upToB 0 false left && exprB 0 false r []))))) = true
    rw [a1, upTo_yes ⟨h4.1, by omega⟩, upTo_yes ⟨h5.1, by show l ≤ 1; omega⟩]
    rfl
  · subst h1 h3 h4 h6
    have a1 : amongB m 5 = true := by rcases h2 with rfl | rfl <;> decide
    show (amongB m 5 && (amongB 0 1 && (upToB 0 false 7 && (upToB l true (locTop 2) && (upToB 0 false left && exprB 9 false 0 E))))) = true
    rw [a1, upTo_yes ⟨h5.1, by show l ≤ 1; omega⟩, exprB_good h7]
    rfl
  · subst h3 h4 h5 h6 h7
    have a1 : amongB m 30 = true := by rcases (show m = 1 ∨ m = 2 ∨ m = 3 ∨ m = 4 by omega) with rfl | rfl | rfl | rfl <;> decide
    subst h1
    show (amongB m 30 && (amongB 0 1 && (upToB 0 false 7 && (upToB 0 false (locTop 2) && (upToB 0 false left && exprB 0 false 0 []))))) = true
    rw [a1]
    rfl
  · subst h6 h7
    have a1 : amongB m 3 = true := by rcases h2 with rfl | rfl <;> decide
    have a2 : amongB m2 5 = true := by rcases h3 with rfl | rfl <;> decide
    have a3 : exprB 7 true r [(1, (b : Int))] = true := by
      have e1 : checkB [(1, (b : Int))] = true := by rcases (show b = 0 ∨ b = 1 by omega) with rfl | rfl <;> decide
      unfold exprB
      rw [if_neg (by decide), e1]
      show (true && true && !(true && decide (r ∈ ([] : List Int)))) = true
      simp
    subst h1
    show (amongB m 3 && (amongB m2 5 && (upToB r true 7 && (upToB l true (locTop 2) && (upToB 0 false left && exprB 7 true r [(1, (b : Int))]))))) = true
    rw [a1, a2, a3, upTo_yes ⟨h4.1, by omega⟩, upTo_yes ⟨h5.1, by show l ≤ 1; omega⟩]
    rfl
  · subst h1 h2 h3 h5 h6
    show (amongB 0 1 && (amongB 0 1 && (upToB r true 7 && (upToB 0 false (locTop 2) && (upToB 0 false left && exprB 9 false r E))))) = true
    rw [upTo_yes ⟨h4.1, by omega⟩, exprB_good h7]
    rfl
  · subst h1 h2 h3 h4 h5
    show (amongB 0 1 && (amongB 0 1 && (upToB 0 false 7 && (upToB 0 false (locTop 2) && (upToB n true left && exprB 9 false 0 E))))) = true
    rw [upTo_yes h6, exprB_good h7]
    rfl
theorem good_line {L : List Ins} (h : GoodTh L.length L) : lineTo 2 L L.length = true := by
  have : ∀ q, q ≤ L.length → lineTo 2 L q = true := by
    intro q
    induction q with
    | zero => intro _; rfl
    | succ q ih =>
      intro hq
      show (lineTo 2 L q && okI 2 L q) = true
      rw [ih (by omega), Bool.true_and]
      have g := gi_ok (h.gi q (by omega))
      have e : (((L.length - 1 - q : Nat)) : Int) = (L.length : Int) - 1 - (q : Int) := by omega
      rw [e] at g
      exact g
  exact this _ (Nat.le_refl _)
theorem cnt6_take (L : List Ins) (q : Nat) (h : q < L.length) : cnt6 (L.take (q + 1)) = cnt6 (L.take q) + (if (L.getD q Ins.zero).k = 6 then 1 else 0) := by
  rw [List.take_succ_eq_append_getElem h, cnt6_snoc]
  have e : L.getD q Ins.zero = L[q] := by simp [h]
  rw [e]
theorem paths_pow (L : List Ins) : ∀ q, q ≤ L.length → pathsTo L q ≤ 2 ^ cnt6 (L.take q) := by
  intro q
  induction q with
  | zero => intro _; exact Nat.le_refl _
  | succ q ih =>
    intro hq
    have := ih (by omega)
    rw [cnt6_take L q (by omega)]
    show (if (L.getD q Ins.zero).k = 6 then min (2 * pathsTo L q) 1000000 else pathsTo L q) ≤ _
    by_cases h6 : (L.getD q Ins.zero).k = 6
    · rw [if_pos h6, if_pos h6, Nat.pow_succ]
      exact Nat.le_trans (Nat.min_le_left _ _) (by omega)
    · rw [if_neg h6, if_neg h6]; exact this
theorem good_over {th : Th} (h : GoodTh th.L.length th.L) (h8 : th.L.length ≤ 8) : overB th = false := by
  have h1 := paths_pow th.L th.L.length (Nat.le_refl _)
  rw [List.take_length] at h1
  have h2 : 2 ^ cnt6 th.L ≤ 2 ^ 2 := Nat.pow_le_pow_right (by decide) h.few
  have a1 : decide (12 < th.L.length) = false := by simp; omega
  have a2 : decide (64 < pathsTo th.L th.L.length) = false := by simp; omega
  unfold overB
  rw [a1, a2]; rfl
/-- a program of threads that may be: few enough -/
structure Few4 (T N : Nat) (P : List Th) : Prop where
  len : P.length = T
  t1 : 1 ≤ T
  t4 : T ≤ 4
  n18 : N ≤ 18
  good : ∀ t, t < T → GoodTh (P.getD t Th.zero).L.length (P.getD t Th.zero).L
  most : ∀ t, t < T → (P.getD t Th.zero).L.length ≤ 8
  tot : ∀ t, t < T → (P.getD t Th.zero).L.length = 0 ∨ t + ((P.getD t Th.zero).L.length - 1) * T < N
theorem few_err {T N : Nat} {P : List Th} (h : Few4 T N P) : errB 2 P = 0 := by
  have hform : formB 2 P = true := by
    have : ∀ t, t ≤ P.length → formTo 2 P t = true := by
      intro t
      induction t with
      | zero => intro _; rfl
      | succ t ih =>
        intro ht
        show (formTo 2 P t && lineTo 2 (P.getD t Th.zero).L (P.getD t Th.zero).L.length) = true
        rw [ih (by omega), good_line (h.good t (by have := h.len; omega))]
        rfl
    exact this _ (Nat.le_refl _)
  have hover : overTo P P.length = false := by
    have : ∀ t, t ≤ P.length → overTo P t = false := by
      intro t
      induction t with
      | zero => intro _; rfl
      | succ t ih =>
        intro ht
        show (overTo P t || overB (P.getD t Th.zero)) = false
        rw [ih (by omega), good_over (h.good t (by have := h.len; omega)) (h.most t (by have := h.len; omega))]
        rfl
    exact this _ (Nat.le_refl _)
  have hev : evAll 2 P P.length ≤ 40 := by
    have e : ∀ t, t < T → evsTo (P.getD t Th.zero).L (P.getD t Th.zero).L.length ≤ 2 * (P.getD t Th.zero).L.length := fun t _ => evsTo_le _ _
    have hn := h.n18
    rw [h.len]
    rcases (show T = 1 ∨ T = 2 ∨ T = 3 ∨ T = 4 by have := h.t1; have := h.t4; omega) with rfl | rfl | rfl | rfl
    · have b0 := e 0 (by decide); have m0 := h.most 0 (by decide)
      show (2 : Int) + (evsTo (P.getD 0 Th.zero).L (P.getD 0 Th.zero).L.length : Nat) ≤ 40
      omega
    · have b0 := e 0 (by decide); have m0 := h.most 0 (by decide)
      have b1 := e 1 (by decide); have m1 := h.most 1 (by decide)
      show (2 : Int) + (evsTo (P.getD 0 Th.zero).L (P.getD 0 Th.zero).L.length : Nat) + (evsTo (P.getD 1 Th.zero).L (P.getD 1 Th.zero).L.length : Nat) ≤ 40
      omega
    · have b0 := e 0 (by decide); have m0 := h.tot 0 (by decide)
      have b1 := e 1 (by decide); have m1 := h.tot 1 (by decide)
      have b2 := e 2 (by decide); have m2 := h.tot 2 (by decide)
      show (2 : Int) + (evsTo (P.getD 0 Th.zero).L (P.getD 0 Th.zero).L.length : Nat) + (evsTo (P.getD 1 Th.zero).L (P.getD 1 Th.zero).L.length : Nat) + (evsTo (P.getD 2 Th.zero).L (P.getD 2 Th.zero).L.length : Nat) ≤ 40
      omega
    · have b0 := e 0 (by decide); have m0 := h.tot 0 (by decide)
      have b1 := e 1 (by decide); have m1 := h.tot 1 (by decide)
      have b2 := e 2 (by decide); have m2 := h.tot 2 (by decide)
      have b3 := e 3 (by decide); have m3 := h.tot 3 (by decide)
      show (2 : Int) + (evsTo (P.getD 0 Th.zero).L (P.getD 0 Th.zero).L.length : Nat) + (evsTo (P.getD 1 Th.zero).L (P.getD 1 Th.zero).L.length : Nat) + (evsTo (P.getD 2 Th.zero).L (P.getD 2 Th.zero).L.length : Nat) + (evsTo (P.getD 3 Th.zero).L (P.getD 3 Th.zero).L.length : Nat) ≤ 40
      omega
  have hbig : bigB 2 P = false := by
    have a1 : decide (4 < P.length) = false := by have := h.len; have := h.t4; simp; omega
    have a2 : decide (40 < evAll 2 P P.length) = false := by simp; omega
    unfold bigB
    rw [hover, a1, a2]; rfl
  unfold errB
  rw [hform, hbig]
  rfl
/-- without Skips one less may be too -/
theorem good_less {L : List Ins} {k : Nat} (h : GoodTh L.length L) (h6 : ∀ q, q < L.length → (L.getD q Ins.zero).k ≠ 6) : GoodTh (L.take k ++ L.drop (k + 1)).length (L.take k ++ L.drop (k + 1)) := by
  have hgen : ∀ i, i ∈ L → ∀ left, i.k ≠ 6 ∧ GI left i := by
    intro i hi left
    obtain ⟨q, hq, rfl⟩ := List.getElem_of_mem hi
    have e : L.getD q Ins.zero = L[q] := by simp [hq]
    have g := h.gi q hq
    have n6 := h6 q hq
    rw [e] at g n6
    refine ⟨n6, ?_⟩
    rcases g with g | g | g | g | g | g
    · exact .inl g
    · exact .inr (.inl g)
    · exact .inr (.inr (.inl g))
    · exact .inr (.inr (.inr (.inl g)))
    · exact .inr (.inr (.inr (.inr (.inl g))))
    · exact absurd g.1 n6
  have hmem : ∀ i, i ∈ L.take k ++ L.drop (k + 1) → i ∈ L := by
    intro i hi
    rcases List.mem_append.1 hi with hi | hi
    · exact List.mem_of_mem_take hi
    · exact List.mem_of_mem_drop hi
  refine ⟨fun q hq => ?_, ?_⟩
  · have e : (L.take k ++ L.drop (k + 1)).getD q Ins.zero = (L.take k ++ L.drop (k + 1))[q] := by rw [List.getD_eq_getElem?_getD, List.getElem?_eq_getElem hq]; rfl
    rw [e]
    exact (hgen _ (hmem _ (List.getElem_mem _)) _).2
  · have e : cnt6 (L.take k ++ L.drop (k + 1)) = 0 := by
      unfold cnt6
      rw [List.length_eq_zero_iff, List.filter_eq_nil_iff]
      intro i hi
      have := (hgen i (hmem i hi) 0).1
      simp [this]
    omega
end SndA
end Go.Proofs.YtkfepcmgbmnceaaDoor
