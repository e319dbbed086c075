/-
  What the functions that the law reaches do, one by one: contracts. Conditions: those that each of them prints.
-/
import Derived.Test.YtgpkdhbegkhjjaaDoorMc
import Derived.Deep.RegionWith
import Derived.Deep.DrawnRows
namespace Go.Proofs.YtgpkdhbegkhjjaaDoor
open Go.RowKit RelA
attribute [local irreducible] RelA.rcells
namespace RelA
/-- steps of M lead from i to j -/
abbrev MPath (M : Nat → Nat → Bool) (i j : Nat) : Prop := Relation.TransGen (fun a b => M a b = true) i j
/-- what one round of Plus has laid -/
def pk (T : Nat → Nat → Bool) (k a x : Nat) : Nat → Nat → Bool := fun i j =>
  if i < a ∨ (i = a ∧ j < x) then (T i j || (T i k && T k j)) else T i j
def WFM (n : Nat) (M : Nat → Nat → Bool) : Prop := ∀ i j, M i j = true → i < n ∧ j < n
/-- what the rounds of Plus know -/
def QInv (n : Nat) (M T : Nat → Nat → Bool) (k : Nat) : Prop :=
  WFM n T ∧ (∀ i j, M i j = true → T i j = true) ∧ (∀ i j, T i j = true → MPath M i j) ∧ ∀ m, m < k → ∀ i j, T i m = true → T m j = true → T i j = true
theorem mpath_trans {M : Nat → Nat → Bool} {i j k : Nat} (h : MPath M i j) (g : MPath M j k) : MPath M i k := by
  induction g with
  | single g => exact .tail h g
  | tail _ g ih => exact .tail ih g
theorem QInv.start (n : Nat) (M : Nat → Nat → Bool) (h : WFM n M) : QInv n M M 0 := ⟨h, fun _ _ h => h, fun _ _ h => .single h, fun m hm => absurd hm (by omega)⟩
theorem QInv.step {n k : Nat} {M T : Nat → Nat → Bool} (h : QInv n M T k) : QInv n M (fun i j => T i j || (T i k && T k j)) (k + 1) := by
  obtain ⟨h1, h2, h3, h4⟩ := h
  have hor : ∀ i j, (T i j || (T i k && T k j)) = true ↔ T i j = true ∨ (T i k = true ∧ T k j = true) := fun i j => by
    rw [Bool.or_eq_true, Bool.and_eq_true]
  refine ⟨fun i j h => ?_, fun i j h => ?_, fun i j h => ?_, fun m hm i j a b => ?_⟩
  · rcases (hor i j).1 h with h | ⟨h, g⟩
    · exact h1 i j h
    · exact ⟨(h1 _ _ h).1, (h1 _ _ g).2⟩
  · exact (hor i j).2 (.inl (h2 i j h))
  · rcases (hor i j).1 h with h | ⟨h, g⟩
    · exact h3 i j h
    · exact mpath_trans (h3 _ _ h) (h3 _ _ g)
  · have a := (hor i m).1 a
    have b := (hor m j).1 b
    refine (hor i j).2 ?_
    by_cases e : m = k
    · subst e
      have a2 : T i m = true := by rcases a with a | ⟨a, _⟩ <;> exact a
      have b2 : T m j = true := by rcases b with b | ⟨_, b⟩ <;> exact b
      exact .inr ⟨a2, b2⟩
    · have hm2 : m < k := by omega
      rcases a with a | ⟨a, a'⟩ <;> rcases b with b | ⟨b, b'⟩
      · exact .inl (h4 m hm2 i j a b)
      · exact .inr ⟨h4 m hm2 i k a b, b'⟩
      · exact .inr ⟨a, h4 m hm2 k j a' b⟩
      · exact .inr ⟨a, b'⟩
theorem QInv.done {n k : Nat} {M T : Nat → Nat → Bool} (h : QInv n M T k) (hk : n ≤ k) (i j : Nat) : T i j = true ↔ MPath M i j := by
  obtain ⟨h1, h2, h3, h4⟩ := h
  refine ⟨h3 i j, fun h => ?_⟩
  induction h with
  | single h => exact h2 _ _ h
  | @tail b c _ hbc ih => exact h4 b (Nat.lt_of_lt_of_le (h1 _ _ ih).2 hk) i c ih (h2 _ _ hbc)
theorem pk_zero (T : Nat → Nat → Bool) (k i j : Nat) : pk T k 0 0 i j = T i j := by
  unfold pk; rw [if_neg (by omega)]
theorem pk_ak (T : Nat → Nat → Bool) (k a x : Nat) : pk T k a x a k = T a k := by
  unfold pk; split
  · cases T a k <;> simp
  · rfl
theorem pk_kx (T : Nat → Nat → Bool) (k a x : Nat) : pk T k a x k x = T k x := by
  unfold pk; split
  · cases T k k <;> cases T k x <;> rfl
  · rfl
theorem pk_ax (T : Nat → Nat → Bool) (k a x : Nat) : pk T k a x a x = T a x := by
  unfold pk; rw [if_neg (by omega)]
theorem pk_skip (T : Nat → Nat → Bool) (k a : Nat) (h : T a k = false) (i j : Nat) : pk T k a 0 i j = pk T k (a + 1) 0 i j := by
  unfold pk
  by_cases e : i = a
  · subst e
    rw [if_neg (by omega), if_pos (by omega), h]; simp
  · by_cases h2 : i < a
    · rw [if_pos (by omega), if_pos (by omega)]
    · rw [if_neg (by omega), if_neg (by omega)]
theorem pk_end (T : Nat → Nat → Bool) (n k a : Nat) (hW : WFM n T) (i j : Nat) : pk T k a n i j = pk T k (a + 1) 0 i j := by
  unfold pk
  by_cases e : i = a
  · subst e
    by_cases hj : j < n
    · rw [if_pos (by omega), if_pos (by omega)]
    · rw [if_neg (by omega), if_pos (by omega)]
      have h1 : T i j = false := by
        rw [← Bool.not_eq_true]; intro h; exact hj (hW _ _ h).2
      have h2 : T k j = false := by
        rw [← Bool.not_eq_true]; intro h; exact hj (hW _ _ h).2
      rw [h1, h2]; simp
  · by_cases h2 : i < a
    · rw [if_pos (by omega), if_pos (by omega)]
    · rw [if_neg (by omega), if_neg (by omega)]
theorem pk_full (T : Nat → Nat → Bool) (n k a : Nat) (hW : WFM n T) (ha : a = n) (i j : Nat) : pk T k a 0 i j = (T i j || (T i k && T k j)) := by
  subst ha
  unfold pk
  by_cases h : i < a
  · rw [if_pos (by omega)]
  · rw [if_neg (by omega)]
    have h1 : T i j = false := by
      rw [← Bool.not_eq_true]; intro g; exact h (hW _ _ g).1
    have h2 : T i k = false := by
      rw [← Bool.not_eq_true]; intro g; exact h (hW _ _ g).1
    rw [h1, h2]; simp
theorem pk_step (T : Nat → Nat → Bool) (k a x : Nat) (h : T a k = true) (i j : Nat) : updM (pk T k a x) a x (T a x || T k x) i j = pk T k a (x + 1) i j := by
  unfold updM
  by_cases e : i = a ∧ j = x
  · rw [if_pos e]; obtain ⟨rfl, rfl⟩ := e
    unfold pk; rw [if_pos (by omega), h]; simp
  · rw [if_neg e]
    unfold pk
    by_cases h2 : i < a ∨ (i = a ∧ j < x)
    · rw [if_pos h2, if_pos (by omega)]
    · rw [if_neg h2, if_neg (by omega)]
end RelA
end Go.Proofs.YtgpkdhbegkhjjaaDoor
namespace Go.Proofs.YtgpkdhbegkhjjaaDoor
open Go.RowKit RelA
attribute [local irreducible] RelA.rcells
namespace RelA
def rrow (M : Nat → Nat → Bool) (i q : Nat) : List (Nat × Nat) := ((List.range q).filter fun j => M i j).map fun j => (i, j)
def rpre (N : Nat) (M : Nat → Nat → Bool) (k : Nat) : List (Nat × Nat) := (List.range k).flatMap fun i => rrow M i N
def rpairs (N : Nat) (M : Nat → Nat → Bool) : List (Nat × Nat) := rpre N M N
theorem rrow_yes (M : Nat → Nat → Bool) (i q : Nat) (h : M i q = true) : rrow M i (q + 1) = rrow M i q ++ [(i, q)] := by
  unfold rrow; rw [List.range_succ, List.filter_append, List.map_append]; simp [h]
theorem rrow_no (M : Nat → Nat → Bool) (i q : Nat) (h : M i q = false) : rrow M i (q + 1) = rrow M i q := by
  unfold rrow; rw [List.range_succ, List.filter_append, List.map_append]; simp [h]
theorem rrow_len (M : Nat → Nat → Bool) (i q : Nat) : (rrow M i q).length ≤ q := by
  unfold rrow; rw [List.length_map]
  have := List.length_filter_le (fun j => M i j) (List.range q)
  simpa using this
theorem rpre_succ (N : Nat) (M : Nat → Nat → Bool) (k : Nat) : rpre N M (k + 1) = rpre N M k ++ rrow M k N := by
  unfold rpre; rw [List.range_succ, List.flatMap_append]; simp
theorem rpre_len (N : Nat) (M : Nat → Nat → Bool) (hN : N ≤ 40) (k : Nat) : (rpre N M k).length ≤ 40 * k := by
  induction k with
  | zero => simp [rpre]
  | succ k ih =>
    rw [rpre_succ, List.length_append]
    have := rrow_len M k N
    omega
/-- a list of pairs of the call's own, or none -/
def PairsRd (w : World) (a : Option Addr) (L : List (Nat × Nat)) : Prop := L = [] ∨ ∃ g, a = some ⟨g, 0, none⟩ ∧ g < w.heap.size ∧ ∀ i, i < L.length →
  w.cell? ⟨g, i * 2, none⟩ = some (.int .i64 ((castP L).getD i (0, 0)).1) ∧ w.cell? ⟨g, i * 2 + 1, none⟩ = some (.int .i64 ((castP L).getD i (0, 0)).2)
theorem PairsRd.next {w w' : World} {a : Option Addr} {L : List (Nat × Nat)} (h : PairsRd w a L) (hb : Below w.heap.size w w') : PairsRd w' a L := by
  rcases h with h | ⟨g, h1, h2, h3⟩
  · exact .inl h
  · exact .inr ⟨g, h1, Nat.lt_of_lt_of_le h2 hb.size, fun i hi => ⟨(hb.cell (p := ⟨g, i * 2, none⟩) h2).trans (h3 i hi).1, (hb.cell (p := ⟨g, i * 2 + 1, none⟩) h2).trans (h3 i hi).2⟩⟩
theorem PairsRd.of_own {w : World} {base : Nat} {v : Value} {L : List (Nat × Nat)} (hown : w.ownsRow base 40 2 v L.length (pairCells L)) : ∃ a cap, v = .slice a L.length cap ∧ PairsRd w a L := by
  obtain ⟨hl, ⟨rfl, h0⟩ | ⟨g, cap, cur, rfl, hg, hcur, hc1, hc2, hc3, hc4⟩⟩ := hown
  · have : L = [] := List.length_eq_zero_iff.1 h0
    subst this
    exact ⟨none, 0, rfl, .inl rfl⟩
  · have hget : ∀ j, j < L.length * 2 → w.cell? ⟨g, j, none⟩ = (pairCells L)[j]? := by
      intro j hj
      rw [cell_of_row w g j cur _ _ hcur, ← hc4, List.getElem?_take, if_pos hj]
      simp
    refine ⟨_, _, rfl, .inr ⟨g, rfl, (Array.getElem?_eq_some_iff.1 hcur).1, fun i hi => ?_⟩⟩
    have hp := pairCells_get L i hi
    rw [hget _ (by omega), hget _ (by omega)]
    exact hp
def hasM (n : Nat) (M : Nat → Nat → Bool) (a b : Int) : Bool := (inB n a && inB n b) && M a.toNat b.toNat
end RelA

end Go.Proofs.YtgpkdhbegkhjjaaDoor
namespace Go.Proofs.YtgpkdhbegkhjjaaDoor
open Go.RowKit RelA
attribute [local irreducible] RelA.rcells
section
attribute [local go_sem ↓] Go.wp_at_zero Go.wp_at_succ
end
end Go.Proofs.YtgpkdhbegkhjjaaDoor
