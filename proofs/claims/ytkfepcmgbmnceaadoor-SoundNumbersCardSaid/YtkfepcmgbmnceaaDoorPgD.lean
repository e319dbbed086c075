import Derived.Test.YtkfepcmgbmnceaaDoorPgC
namespace Go.Proofs.YtkfepcmgbmnceaaDoor
open Go.RowKit ExprA SndA
namespace SndA
/-- an instruction's cells -/
def inscells (i : Ins) : List Value := [.int .i64 i.k, .int .i64 i.m, .int .i64 i.m2, .int .i64 i.r, .int .i64 i.l, .slice i.a i.E.length i.c, .int .i64 i.n]
def lcells (L : List Ins) : List Value := L.flatMap inscells
theorem lcells_len (L : List Ins) : (lcells L).length = L.length * 7 := by
  induction L with
  | nil => rfl
  | cons i L ih =>
    show (inscells i ++ lcells L).length = _
    rw [List.length_append, ih, List.length_cons]
    show 7 + _ = _
    omega
theorem lcells_get (L : List Ins) (q : Nat) (hq : q < L.length) (j : Nat) (hj : j < 7) : (lcells L)[q * 7 + j]? = (inscells (L.getD q Ins.zero))[j]? := by
  induction L generalizing q with
  | nil => simp at hq
  | cons i L ih =>
    show (inscells i ++ lcells L)[q * 7 + j]? = _
    cases q with
    | zero => rw [List.getElem?_append_left (by show _ < 7; omega)]; simp
    | succ q =>
      rw [List.getElem?_append_right (by show 7 ≤ _; omega)]
      have e : (q + 1) * 7 + j - (inscells i).length = q * 7 + j := by show _ - 7 = _; omega
      rw [e, ih q (by simpa using hq)]
      simp
theorem lcells_snoc (L : List Ins) (i : Ins) : lcells (L ++ [i]) = lcells L ++ inscells i := by
  unfold lcells; rw [List.flatMap_append]; simp
theorem inscells_one (i : Ins) : ∀ u ∈ inscells i, u.oneCell' = true := by
  intro u hu
  simp only [inscells, List.mem_cons, List.not_mem_nil, or_false] at hu
  rcases hu with rfl | rfl | rfl | rfl | rfl | rfl | rfl <;> rfl
/-- words of an instruction, in a block of their own between lo and hi -/
def TokAt (w : World) (lo hi : Nat) (i : Ins) : Prop := (i.a = none ∧ i.E = [] ∧ i.c = 0) ∨ ∃ g, i.a = some ⟨g, 0, none⟩ ∧ i.c = i.E.length ∧ lo ≤ g ∧ g < hi ∧ w.heap[g]? = some (.cells (icells i.E).toArray 37 (0, 0))
/-- what lies between is as it was -/
def Keep (lo hi : Nat) (w w' : World) : Prop := ∀ b, lo ≤ b → b < hi → w'.heap[b]? = w.heap[b]?
theorem TokAt.keep {w w' : World} {lo hi : Nat} {i : Ins} (h : TokAt w lo hi i) (hk : Keep lo hi w w') : TokAt w' lo hi i := by
  rcases h with h | ⟨g, h1, h2, h3, h4, h5⟩
  · exact .inl h
  · exact .inr ⟨g, h1, h2, h3, h4, (hk g h3 h4).trans h5⟩
theorem TokAt.mono {w : World} {lo hi lo' hi' : Nat} {i : Ins} (h : TokAt w lo hi i) (h1 : lo' ≤ lo) (h2 : hi ≤ hi') : TokAt w lo' hi' i := by
  rcases h with h | ⟨g, a1, a2, a3, a4, a5⟩
  · exact .inl h
  · exact .inr ⟨g, a1, a2, by omega, by omega, a5⟩
theorem lt_of_heap {w : World} {g : Nat} {o : Obj} (h : w.heap[g]? = some o) : g < w.heap.size := (Array.getElem?_eq_some_iff.1 h).1
theorem tok_of_new {w w' : World} {i : Ins} (h : InsNew w w' i) : TokAt w' w.heap.size w'.heap.size i := by
  rcases h with h | ⟨g, h1, h2, h3, h4⟩
  · exact .inl h
  · exact .inr ⟨g, h1, h2, h3, lt_of_heap h4, h4⟩
/-- a thread that is done, between lo and hi -/
structure ThF (w : World) (lo hi : Nat) (th : Th) : Prop where
  row : (th.a = none ∧ th.L = [] ∧ th.c = 0) ∨ ∃ g cur, th.a = some ⟨g, 0, none⟩ ∧ lo ≤ g ∧ g < hi ∧ w.heap[g]? = some (.cells cur 34 (0, 0)) ∧ cur.toList.take (th.L.length * 7) = lcells th.L ∧ th.L.length ≤ th.c ∧ th.c ≤ maxLen
  tok : ∀ q, q < th.L.length → TokAt w lo hi (th.L.getD q Ins.zero)
theorem ThF.keep {w w' : World} {lo hi : Nat} {th : Th} (h : ThF w lo hi th) (hk : Keep lo hi w w') : ThF w' lo hi th := by
  refine ⟨?_, fun q hq => (h.tok q hq).keep hk⟩
  rcases h.row with a | ⟨g, cur, a1, a2, a3, a4, a5⟩
  · exact .inl a
  · exact .inr ⟨g, cur, a1, a2, a3, (hk g a2 a3).trans a4, a5⟩
theorem ThF.mono {w : World} {lo hi lo' hi' : Nat} {th : Th} (h : ThF w lo hi th) (h1 : lo' ≤ lo) (h2 : hi ≤ hi') : ThF w lo' hi' th := by
  refine ⟨?_, fun q hq => (h.tok q hq).mono h1 h2⟩
  rcases h.row with a | ⟨g, cur, a1, a2, a3, a4, a5⟩
  · exact .inl a
  · exact .inr ⟨g, cur, a1, by omega, by omega, a4, a5⟩
def Th.v (th : Th) : Value := .slice th.a th.L.length th.c
/-- a program under way: the result's cell, the row of threads, the program's cells -/
structure PS (w wi : World) (p tb bx T : Nat) (vs : Nat → Value) : Prop where
  bel : Below w.heap.size w wi
  res : wi.heap[p]? = some (.cells #[.int .i64 0, .slice none 0 0] 26 (0, 0))
  box : wi.heap[bx]? = some (.cells #[.int .i64 2, .slice (some ⟨tb, 0, none⟩) T T] 26 (0, 0))
  thr : ∃ cs : Array Value, wi.heap[tb]? = some (.cells cs 31 (0, 0)) ∧ cs.size = T ∧ ∀ s, s < T → cs[s]? = some (vs s)
/-- a thread's instructions: each may be, of those at most two are Skips -/
def cnt6 (L : List Ins) : Nat := (L.filter fun i => i.k == 6).length
structure GoodTh (n : Nat) (L : List Ins) : Prop where
  gi : ∀ q, q < L.length → GI (n - 1 - q) (L.getD q Ins.zero)
  few : cnt6 L ≤ 2
/-- a thread under way: so many instructions of n -/
structure TS (wi : World) (mid n : Nat) (v : Value) (L : List Ins) (sk : Nat) : Prop where
  size : mid ≤ wi.heap.size
  own : wi.ownsRow mid 34 7 v L.length (lcells L)
  tok : ∀ q, q < L.length → TokAt wi mid wi.heap.size (L.getD q Ins.zero)
  good : ∀ q, q < L.length → GI (n - 1 - q) (L.getD q Ins.zero)
  few : cnt6 L ≤ min sk 2
theorem cnt6_snoc (L : List Ins) (i : Ins) : cnt6 (L ++ [i]) = cnt6 L + (if i.k = 6 then 1 else 0) := by
  unfold cnt6
  rw [List.filter_append, List.length_append]
  by_cases h : i.k = 6
  · simp [h]
  · simp [h]
theorem getD_snoc_lt (L : List Ins) (i : Ins) (q : Nat) (h : q < L.length) : (L ++ [i]).getD q Ins.zero = L.getD q Ins.zero := by
  rw [List.getD_eq_getElem?_getD, List.getElem?_append_left h, ← List.getD_eq_getElem?_getD]
theorem getD_snoc_eq (L : List Ins) (i : Ins) : (L ++ [i]).getD L.length Ins.zero = i := by
  rw [List.getD_eq_getElem?_getD, List.getElem?_append_right (Nat.le_refl _)]; simp
end SndA
end Go.Proofs.YtkfepcmgbmnceaaDoor
