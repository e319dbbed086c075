/-
  The order of lists of numbers. Conditions: none.
-/
import Derived.Test.YthahhibenejgfaaMemA
import Derived.Shelf.SlSortCmp.Kit1
namespace Go.Proofs.Ythahhibenejgfaa
open Go.RowKit
namespace Mem
theorem cmpI_flip (x y : Int) : cmpI y x = - cmpI x y := by
  unfold cmpI
  split <;> split <;> (try split) <;> (try split) <;> omega
theorem cmpL_flip : ∀ l r : List Int, cmpL r l = - cmpL l r
  | [], [] => rfl
  | [], _ :: _ => rfl
  | _ :: _, [] => rfl
  | x :: l, y :: r => by
    show (if y = x then cmpL r l else cmpI y x) = - (if x = y then cmpL l r else cmpI x y)
    by_cases h : x = y
    · rw [if_pos h, if_pos h.symm]; exact cmpL_flip l r
    · rw [if_neg h, if_neg (fun e => h e.symm)]; exact cmpI_flip x y
theorem cmpL_self : ∀ l : List Int, cmpL l l = 0
  | [] => rfl
  | x :: l => by
    show (if x = x then cmpL l l else cmpI x x) = 0
    rw [if_pos rfl]; exact cmpL_self l
theorem cmpL_eq : ∀ {l r : List Int}, cmpL l r = 0 → l = r
  | [], [], _ => rfl
  | [], _ :: _, h => by cases h
  | _ :: _, [], h => by cases h
  | x :: l, y :: r, h => by
    have h' : (if x = y then cmpL l r else cmpI x y) = 0 := h
    by_cases e : x = y
    · rw [if_pos e] at h'; rw [e, cmpL_eq h']
    · rw [if_neg e] at h'; exact absurd (cmpI_zero h') e
theorem cmpI_lt {x y : Int} : cmpI x y < 0 ↔ x < y := by
  unfold cmpI; split <;> (try split) <;> omega
/-- l is ahead of r -/
def Lt (l r : List Int) : Prop := cmpL l r < 0
theorem lt_cons {x y : Int} {l r : List Int} : Lt (x :: l) (y :: r) ↔ x < y ∨ (x = y ∧ Lt l r) := by
  show (if x = y then cmpL l r else cmpI x y) < 0 ↔ _
  by_cases e : x = y
  · rw [if_pos e]; simp [e, Lt]
  · rw [if_neg e, cmpI_lt]; simp [e]
theorem lt_nil {l : List Int} : ¬ Lt l [] := by
  cases l <;> (unfold Lt cmpL; decide)
theorem nil_lt {x : Int} {l : List Int} : Lt [] (x :: l) := by unfold Lt cmpL; decide
theorem lt_trans : ∀ {a b c : List Int}, Lt a b → Lt b c → Lt a c
  | _, [], _, h, _ => absurd h lt_nil
  | _, _ :: _, [], _, h => absurd h lt_nil
  | [], _ :: _, _ :: _, _, _ => nil_lt
  | x :: a, y :: b, z :: c, h, g => by
    rw [lt_cons] at h g ⊢
    rcases h with h | ⟨rfl, h⟩
    · rcases g with g | ⟨rfl, g⟩
      · exact .inl (by omega)
      · exact .inl h
    · rcases g with g | ⟨rfl, g⟩
      · exact .inl g
      · exact .inr ⟨rfl, lt_trans h g⟩
theorem lt_irrefl (l : List Int) : ¬ Lt l l := by unfold Lt; rw [cmpL_self]; decide
/-- one of three -/
theorem tri (l r : List Int) : Lt l r ∨ l = r ∨ Lt r l := by
  rcases Int.lt_trichotomy (cmpL l r) 0 with h | h | h
  · exact .inl h
  · exact .inr (.inl (cmpL_eq h))
  · exact .inr (.inr (by unfold Lt; rw [cmpL_flip]; omega))
/-- sorting places of a row of lists -/
def cfL (C : Nat → List Int) (i j : Nat) : Int := cmpL (C i) (C j)
theorem swo (C : Nat → List Int) : Go.Sort.SWO (ltOf (cfL C)) := by
  have key : ∀ i j, ltOf (cfL C) i j = true ↔ Lt (C i) (C j) := fun i j => by unfold ltOf cfL Lt; simp
  have keyn : ∀ i j, ltOf (cfL C) i j = false ↔ ¬ Lt (C i) (C j) := fun i j => by rw [← key]; simp
  refine ⟨fun x => ?_, fun x y z h g => ?_, fun x y z h g => ?_⟩
  · rw [keyn]; exact lt_irrefl _
  · rw [key] at *; exact lt_trans h g
  · rw [keyn] at *
    intro q
    rcases tri (C x) (C y) with a | a | a
    · exact h a
    · rw [a] at q; exact g q
    · exact g (lt_trans a q)
/-- where lists part -/
theorem lt_at : ∀ (k : Nat) (l r : List Int), Same k l r → k < l.length → k < r.length → Lt l r → ¬ l.getD k 0 > r.getD k 0
  | k, l, r, hs, h1, h2, h => by
    by_cases e : l.getD k 0 = r.getD k 0
    · omega
    · unfold Lt at h
      rw [cmpL_at k l r hs h1 h2 e, cmpI_lt] at h
      omega
theorem lt_len (k : Nat) (l r : List Int) (hs : Same k l r) (h1 : k ≤ l.length) (h2 : k = r.length) : ¬ Lt l r := by
  intro h
  unfold Lt at h
  rw [cmpL_end k l r hs (.inr h2) h1 (by omega), cmpI_lt] at h
  omega
theorem lt_stop (k : Nat) (l r : List Int) (hs : Same k l r) (h1 : k < l.length) (h2 : k < r.length) (h : Lt l r) (h3 : l.getD k 0 ≠ r.getD k 0) : l.getD k 0 < r.getD k 0 := by
  have := lt_at k l r hs h1 h2 h
  omega
/-- lists in memory -/
def LsIn (w : World) (a : Option Addr) (C : List Ls) : Prop :=
  C = [] ∨ ∃ b o, a = some ⟨b, o, none⟩ ∧ b < w.heap.size ∧ ∀ q, q < C.length → w.cell? ⟨b, o + q, none⟩ = some (C.getD q Ls.zero).v ∧ NsIn w (C.getD q Ls.zero).a (C.getD q Ls.zero).L
theorem LsIn.next {w w' : World} {a : Option Addr} {C : List Ls} (h : LsIn w a C) (hb : Below w.heap.size w w') : LsIn w' a C := by
  rcases h with h | ⟨b, o, h1, h2, h3⟩
  · exact .inl h
  · exact .inr ⟨b, o, h1, Nat.lt_of_lt_of_le h2 hb.size, fun q hq => ⟨cell_next (h3 q hq).1 hb, (h3 q hq).2.next hb⟩⟩
/-- every list is ahead of the next one -/
def Up (D : List Ls) : Prop := ∀ i, i + 1 < D.length → Lt (D.getD i Ls.zero).L (D.getD (i + 1) Ls.zero).L
end Mem
end Go.Proofs.Ythahhibenejgfaa
