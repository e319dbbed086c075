import Derived.Test.YtkfepcmgbmnceaaDoorPgG
namespace Go.Proofs.YtkfepcmgbmnceaaDoor
open Go.RowKit ExprA SndA
namespace SndA
theorem tin_of {w : World} {lo hi : Nat} {i : Ins} (h : TokAt w lo hi i) : TIn w i.a i.E := by
  rcases h with ⟨h1, h2, _⟩ | ⟨g, h1, h2, h3, h4, h5⟩
  · exact .inl h2
  · refine .inr ⟨g, 0, h1, lt_of_heap h5, fun q hq => ?_⟩
    rw [cell_of_row _ _ _ _ _ _ h5, cell_of_row _ _ _ _ _ _ h5, Nat.zero_add]
    have := icells_get i.E q hq
    simpa using this
theorem gi_len {left : Nat} {i : Ins} (h : GI left i) : i.E.length ≤ 100 := by
  rcases h with g | g | g | g | g | g
  · rw [g.2.2.2.2.2.2]; decide
  · have := (goodE_ok g.2.2.2.2.2.2).2.1; omega
  · rw [g.2.2.2.2.2.2]; decide
  · obtain ⟨b, _, e⟩ := g.2.2.2.2.2.2; rw [e]; show (1 : Nat) ≤ 100; decide
  · have := (goodE_ok g.2.2.2.2.2.2).2.1; omega
  · have := (goodE_ok g.2.2.2.2.2.2).2.1; omega
theorem gi_few {left : Nat} {i : Ins} (h : GI left i) : (kr i.k).without = true → Few i.E := by
  rcases h with g | g | g | g | g | g
  · rw [g.1]; intro h; exact absurd h (by decide)
  · rw [g.1]; intro h; exact absurd h (by decide)
  · rw [g.1]; intro h; exact absurd h (by decide)
  · obtain ⟨b, _, e⟩ := g.2.2.2.2.2.2
    rw [e]; intro _; exact .inl rfl
  · rw [g.1]; intro h; exact absurd h (by decide)
  · rw [g.1]; intro h; exact absurd h (by decide)
theorem cur_get {cur : Array Value} {L : List Ins} (h : cur.toList.take (L.length * 7) = lcells L) {q j : Nat} (hq : q < L.length) (hj : j < 7) : cur[q * 7 + j]? = (inscells (L.getD q Ins.zero))[j]? := by
  rw [← lcells_get L q hq j hj, ← h, List.getElem?_take, if_pos (by omega)]
  simp
theorem lcells_of {w : World} {g : Nat} {cur : Array Value} {L : List Ins} (hh : w.heap[g]? = some (.cells cur 34 (0, 0))) (h : cur.toList.take (L.length * 7) = lcells L) (q : Nat) (hq : q < L.length) : LCells w g (0 + q * 7) (L.getD q Ins.zero) := by
  have f : ∀ j, j < 7 → w.cell? ⟨g, 0 + q * 7 + j, none⟩ = (inscells (L.getD q Ins.zero))[j]? := fun j hj => by
    rw [cell_of_row _ _ _ _ _ _ hh, Nat.zero_add]; exact cur_get h hq hj
  exact ⟨f 0 (by decide), f 1 (by decide), f 2 (by decide), f 3 (by decide), f 4 (by decide), f 5 (by decide), f 6 (by decide)⟩
theorem thin_of {w : World} {lo hi n : Nat} {th : Th} (h : ThF w lo hi th) (hg : GoodTh n th.L) (hl : th.L.length ≤ 1000) : ThIn w th := by
  refine ⟨?_, hl, fun q hq => ⟨tin_of (h.tok q hq), gi_len (hg.gi q hq), gi_few (hg.gi q hq)⟩⟩
  rcases h.row with ⟨h1, h2, _⟩ | ⟨g, cur, h1, h2, h3, h4, h5, _⟩
  · exact .inl h2
  · exact .inr ⟨g, 0, h1, lt_of_heap h4, fun q hq => lcells_of h4 h5 q hq⟩
theorem prin_mk {w : World} {tb : Nat} {cs : Array Value} {P : List Th} (hc : w.heap[tb]? = some (.cells cs 31 (0, 0))) (ht : ∀ t, t < P.length → cs[t]? = some (P.getD t Th.zero).v) (h0 : 0 < P.length) (h1 : P.length ≤ 1000) (hth : ∀ t, t < P.length → ThIn w (P.getD t Th.zero)) : PrIn w (some ⟨tb, 0, none⟩) P :=
  ⟨h0, h1, ⟨tb, 0, rfl, lt_of_heap hc, fun t h => by rw [cell_of_row _ _ _ _ _ _ hc, Nat.zero_add]; exact ht t h⟩, hth⟩
theorem prin_of {w w' : World} {tb T most N : Nat} {P : List Th} (h : ProgN w w' tb T most N P) (hT : 1 ≤ T) (hT2 : T ≤ 100) (hm : most ≤ 100) : PrIn w' (some ⟨tb, 0, none⟩) P := by
  obtain ⟨cs, c1, c2, c3⟩ := h.cells
  have hl := h.len
  exact prin_mk c1 (fun t ht => c3 t (by omega)) (by omega) (by omega) fun t ht => thin_of (h.ths t (by omega)) (h.good t (by omega)) (by have := h.most t (by omega); omega)
theorem lcells_take (L : List Ins) (k : Nat) : lcells (L.take k) = (lcells L).take (k * 7) := by
  induction L generalizing k with
  | nil => simp [lcells]
  | cons i L ih =>
    cases k with
    | zero => simp [lcells]
    | succ k =>
      show inscells i ++ lcells (L.take k) = (inscells i ++ lcells L).take ((k + 1) * 7)
      rw [ih, List.take_append]
      have e1 : (k + 1) * 7 - (inscells i).length = k * 7 := by show _ - 7 = _; omega
      have e2 : (inscells i).take ((k + 1) * 7) = inscells i := List.take_of_length_le (by show 7 ≤ _; omega)
      rw [e1, e2]
theorem lcells_drop (L : List Ins) (k : Nat) : lcells (L.drop k) = (lcells L).drop (k * 7) := by
  induction L generalizing k with
  | nil => simp [lcells]
  | cons i L ih =>
    cases k with
    | zero => simp
    | succ k =>
      show lcells (L.drop k) = (inscells i ++ lcells L).drop ((k + 1) * 7)
      rw [ih, List.drop_append]
      have e1 : (k + 1) * 7 - (inscells i).length = k * 7 := by show _ - 7 = _; omega
      have e2 : (inscells i).drop ((k + 1) * 7) = [] := List.drop_of_length_le (by show 7 ≤ _; omega)
      rw [e1, e2, List.nil_append]
theorem lcells_app (A B : List Ins) : lcells (A ++ B) = lcells A ++ lcells B := by unfold lcells; exact List.flatMap_append
theorem lcells_one (L : List Ins) : ∀ u ∈ lcells L, u.oneCell' = true := by
  intro u hu
  unfold lcells at hu
  obtain ⟨i, _, hi⟩ := List.mem_flatMap.1 hu
  exact inscells_one i u hi
theorem news_take {w : World} {g : Nat} {cur : Array Value} {L : List Ins} (hh : w.heap[g]? = some (.cells cur 34 (0, 0))) (h : cur.toList.take (L.length * 7) = lcells L) (k : Nat) :
    ∀ j u, (lcells (L.take k))[j]? = some u → w.cell? ((⟨g, 0, none⟩ : Addr).add j) = some u := fun j u hu => by
  rw [lcells_take, ← h, List.getElem?_take] at hu
  split at hu
  · rw [List.getElem?_take] at hu
    split at hu
    · have e : (⟨g, 0, none⟩ : Addr).add j = ⟨g, j, none⟩ := by unfold Addr.add; split <;> simp_all
      rw [e, cell_of_row _ _ _ _ _ _ hh]
      simpa using hu
    · cases hu
  · cases hu
theorem news_drop {w : World} {g : Nat} {cur : Array Value} {L : List Ins} (hh : w.heap[g]? = some (.cells cur 34 (0, 0))) (h : cur.toList.take (L.length * 7) = lcells L) (k o : Nat) (ho : o = k * 7 ∨ L.length ≤ k) :
    ∀ j u, (lcells (L.drop k))[j]? = some u → w.cell? ((⟨g, o, none⟩ : Addr).add j) = some u := fun j u hu => by
  rcases ho with rfl | ho
  · rw [lcells_drop, ← h, List.getElem?_drop, List.getElem?_take] at hu
    split at hu
    · have e : (⟨g, k * 7, none⟩ : Addr).add j = ⟨g, k * 7 + j, none⟩ := by unfold Addr.add; split <;> simp_all
      rw [e, cell_of_row _ _ _ _ _ _ hh]
      simpa using hu
    · cases hu
  · rw [List.drop_eq_nil_of_le ho] at hu
    simp [lcells] at hu
end SndA
end Go.Proofs.YtkfepcmgbmnceaaDoor
