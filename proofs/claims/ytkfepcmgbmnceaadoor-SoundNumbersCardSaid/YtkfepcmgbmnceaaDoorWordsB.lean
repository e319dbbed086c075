import Derived.Test.YtkfepcmgbmnceaaDoorWordsA
import Derived.Laws.Rows
import Derived.OwnWalk
import Derived.Laws.AppendOwn
import Derived.Deep.AppendLies
namespace Go.Proofs.YtkfepcmgbmnceaaDoor
open Go.RowKit ExprA
namespace ExprA
theorem below_next {w a b : World} (h : Below w.heap.size w a) (g : Below a.heap.size a b) : Below w.heap.size w b := h.trans (g.mono h.size)
theorem grown_drewN (w : World) (n : Nat) (row : Option Nat) : w.grownBy (w.drewN n) row := ⟨rfl, rfl, rfl, Nat.le_refl _, fun _ _ _ => rfl⟩
theorem bel_drewN (w : World) (n : Nat) : Below w.heap.size w (w.drewN n) := ⟨rfl, rfl, rfl, Nat.le_refl _, fun _ _ => rfl⟩
/-- numbers that stand somewhere -/
def NIn (w : World) (a : Option Addr) (R : List Int) : Prop :=
  R = [] ∨ ∃ b o, a = some ⟨b, o, none⟩ ∧ b < w.heap.size ∧ ∀ i, i < R.length → w.cell? ⟨b, o + i, none⟩ = some (.int .i64 (R.getD i 0))
theorem NIn.next {w w' : World} {a : Option Addr} {R : List Int} (h : NIn w a R) (hb : Below w.heap.size w w') : NIn w' a R := by
  rcases h with h | ⟨b, o, h1, h2, h3⟩
  · exact .inl h
  · exact .inr ⟨b, o, h1, Nat.lt_of_lt_of_le h2 hb.size, fun i hi => (hb.cell (p := ⟨b, o + i, none⟩) h2).trans (h3 i hi)⟩
theorem own_len {w : World} {base e size : Nat} {v : Value} {n : Nat} {xs : List Value} (h : w.ownsRow base e size v n xs) : ∃ pa c, v = .slice pa n c := by
  rcases h.2 with ⟨rfl, rfl⟩ | ⟨g, cap, cur, rfl, _⟩
  · exact ⟨none, 0, rfl⟩
  · exact ⟨_, cap, rfl⟩
theorem info34 : (Tryd.prog.info? 37).map (fun i => (i.zero, i.size, i.bytes)) = some (some (.agg #[.int .i64 0, .int .i64 0]), 2, 16) := by kernel_rfl
theorem own_below {w w' : World} {B e size n : Nat} {v : Value} {xs : List Value} (h : w.ownsRow B e size v n xs) (hb : Below w.heap.size w w') : w'.ownsRow B e size v n xs := by
  have hg : w.grownBy w' none := ⟨hb.os, hb.tape, hb.output, hb.size, fun k hk _ => hb.block k hk⟩
  refine h.kept hg ?_
  cases v.ownBlock with
  | none => exact .inl rfl
  | some g => exact .inr (by simp)
def icells (l : List (Int × Int)) : List Value := l.flatMap fun p => [.int .i64 p.1, .int .i64 p.2]
theorem icells_len (l : List (Int × Int)) : (icells l).length = l.length * 2 := by
  induction l with
  | nil => rfl
  | cons p l ih =>
    show (_ :: _ :: icells l).length = _
    rw [List.length_cons, List.length_cons, ih, List.length_cons]; omega
theorem icells_get (l : List (Int × Int)) (i : Nat) (hi : i < l.length) : (icells l)[i * 2]? = some (.int .i64 (l.getD i (0, 0)).1) ∧ (icells l)[i * 2 + 1]? = some (.int .i64 (l.getD i (0, 0)).2) := by
  induction l generalizing i with
  | nil => simp at hi
  | cons p l ih =>
    cases i with
    | zero => exact ⟨rfl, rfl⟩
    | succ i =>
      have := ih i (by simpa using hi)
      have e1 : (i + 1) * 2 = i * 2 + 2 := by omega
      rw [e1]
      exact this
theorem icells_snoc (l : List (Int × Int)) (p : Int × Int) : icells (l ++ [p]) = icells l ++ [.int .i64 p.1, .int .i64 p.2] := by
  unfold icells; rw [List.flatMap_append]; rfl
theorem tin_own {w : World} {base : Nat} {pa : Option Addr} {c : Nat} {T : List (Int × Int)} (h : w.ownsRow base 37 2 (.slice pa T.length c) T.length (icells T)) : TIn w pa T := by
  obtain ⟨_, ⟨hv, h0⟩ | ⟨g, cap, cur, hv, hg, hcur, hc1, hc2, hc3, hc4⟩⟩ := h
  · exact .inl (List.length_eq_zero_iff.1 h0)
  · simp only [Value.slice.injEq] at hv
    obtain ⟨rfl, _, rfl⟩ := hv
    refine .inr ⟨g, 0, rfl, (Array.getElem?_eq_some_iff.1 hcur).1, fun i hi => ?_⟩
    have hget : ∀ j, j < T.length * 2 → w.cell? ⟨g, j, none⟩ = (icells T)[j]? := by
      intro j hj
      rw [cell_of_row w g j cur _ _ hcur, ← hc4, List.getElem?_take, if_pos hj]
      simp
    have hp := icells_get T i hi
    rw [Nat.zero_add, hget _ (by omega), hget _ (by omega)]
    exact hp
theorem tin_new (w : World) (T : List (Int × Int)) (t : TypeId) : TIn (w.alloc (.cells (icells T).toArray t (0, 0))) (some ⟨w.heap.size, 0, none⟩) T := by
  refine .inr ⟨_, 0, rfl, by simp, fun i hi => ?_⟩
  rw [cell_of_row _ _ _ _ _ _ (heap_alloc_new _ _), cell_of_row _ _ _ _ _ _ (heap_alloc_new _ _), Nat.zero_add]
  have := icells_get T i hi
  simpa using this
theorem nin_new (w : World) (R : List Int) (t : TypeId) : NIn (w.alloc (.cells (R.map fun x => Value.int .i64 x).toArray t (0, 0))) (some ⟨w.heap.size, 0, none⟩) R := by
  refine .inr ⟨_, 0, rfl, by simp, fun i hi => ?_⟩
  rw [cell_of_row _ _ _ _ _ _ (heap_alloc_new _ _), Nat.zero_add]
  simp [hi]
theorem own_new (w : World) (base : Nat) (hb : base ≤ w.heap.size) (T : List (Int × Int)) (hT : T.length ≤ 100) : (w.alloc (.cells (icells T).toArray 37 (0, 0))).ownsRow base 37 2 (.slice (some ⟨w.heap.size, 0, none⟩) T.length T.length) T.length (icells T) := by
  refine ⟨icells_len T, .inr ⟨w.heap.size, T.length, (icells T).toArray, rfl, hb, heap_alloc_new _ _, Nat.le_refl _, by unfold maxLen; omega, by simp [icells_len], ?_⟩⟩
  have h := icells_len T
  show (icells T).take (T.length * 2) = icells T
  rw [← h, List.take_length]
theorem icells_app (a b : List (Int × Int)) : icells (a ++ b) = icells a ++ icells b := by unfold icells; exact List.flatMap_append
/-- an owned row: where it lies -/
theorem own_at {w : World} {base : Nat} {v : Value} {T : List (Int × Int)} (h : w.ownsRow base 37 2 v T.length (icells T)) (h0 : T ≠ []) :
    ∃ g c cur, v = .slice (some ⟨g, 0, none⟩) T.length c ∧ base ≤ g ∧ w.heap[g]? = some (.cells cur 37 (0, 0)) ∧ TIn w (some ⟨g, 0, none⟩) T := by
  have ht := fun pa c (e : v = .slice pa T.length c) => tin_own (pa := pa) (c := c) (T := T) (by rw [← e]; exact h)
  obtain ⟨_, ⟨_, h2⟩ | ⟨g, cap, cur, hv, hg, hcur, _⟩⟩ := h
  · exact absurd (List.length_eq_zero_iff.1 h2) h0
  · exact ⟨g, cap, cur, hv, hg, hcur, ht _ _ hv⟩
theorem set_other {w : World} {g j i : Nat} {v : Value} (h : i ≠ j) : (w.setCell ⟨g, i, none⟩ v).cell? ⟨g, j, none⟩ = w.cell? ⟨g, j, none⟩ := World.cell?_setCell_other _ _ _ _ (fun e => h (by cases e; rfl))
theorem tin_set {w : World} {g : Nat} {x y z u : Int} {R : List (Int × Int)} {w' : World} (h : TIn w (some ⟨g, 0, none⟩) ((x, y) :: R))
    (hsz : w'.heap.size = w.heap.size) (h0 : w'.cell? ⟨g, 0, none⟩ = some (.int .i64 z)) (h1 : w'.cell? ⟨g, 1, none⟩ = some (.int .i64 u)) (hr : ∀ j, 2 ≤ j → w'.cell? ⟨g, j, none⟩ = w.cell? ⟨g, j, none⟩) :
    TIn w' (some ⟨g, 0, none⟩) ((z, u) :: R) := by
  rcases h with h | ⟨b, o, e, hb, hc⟩
  · simp at h
  · simp only [Option.some.injEq, Addr.mk.injEq, and_true] at e
    obtain ⟨rfl, rfl⟩ := e
    refine .inr ⟨_, 0, rfl, by omega, fun i hi => ?_⟩
    match i with
    | 0 => exact ⟨h0, h1⟩
    | i + 1 =>
      have := hc (i + 1) (by simpa using hi)
      rw [Nat.zero_add] at this ⊢
      rw [hr _ (by omega), hr _ (by omega)]
      exact this
theorem tmod_neg (n : Int) (k : Nat) (hk : 0 < k) (h : n.tmod k < 0) : n.tmod k + k = n % k := by
  have := Int.tmod_eq_emod (a := n) (b := k)
  have h1 := Int.emod_nonneg n (show (k : Int) ≠ 0 by omega)
  split at this <;> omega
theorem tmod_pos (n : Int) (k : Nat) (hk : 0 < k) (h : ¬ n.tmod k < 0) : n.tmod k = n % k := by
  have := Int.tmod_eq_emod (a := n) (b := k)
  have h1 := Int.emod_lt_of_pos n (show (0 : Int) < k by omega)
  split at this <;> omega
end ExprA
set_option maxRecDepth 100000 in
set_option maxHeartbeats 400000 in
theorem place_any (n : Int) (k : Nat) (w : World) (hk : 0 < k) (hk2 : k ≤ 1099511627776) :
    Calls Tryd.prog 8 #[.int .i64 n, .int .i64 k] w fun e w' => e = .returned (.int .i64 (n % k)) ∧ w = w' := by
  by_cases hz : n.tmod k < 0
  · have HM := Lib.hid (tmod_neg n k hk hz)
    have hlow : -(k : Int) < n.tmod k := by
      have := HM.out
      have h1 := Int.emod_nonneg n (show (k : Int) ≠ 0 by omega)
      by_cases he : n % (k : Int) = 0
      · have h0 : n.tmod k = 0 := Int.tmod_eq_zero_of_dvd (Int.dvd_of_emod_eq_zero he)
        omega
      · omega
    go_enter Tryd.func8, Tryd.ntmps8
    go_wp2_with fail
    go_ret
    exact ⟨by rw [← HM.out]; rfl, rfl⟩
  · have HM := Lib.hid (tmod_pos n k hk hz)
    go_enter Tryd.func8, Tryd.ntmps8
    go_wp2_with fail
    go_ret
    exact ⟨by rw [← HM.out]; rfl, rfl⟩
end Go.Proofs.YtkfepcmgbmnceaaDoor
