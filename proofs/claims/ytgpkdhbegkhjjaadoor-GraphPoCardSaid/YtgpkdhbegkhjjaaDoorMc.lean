/-
  What the functions that the law reaches do, one by one: contracts. Conditions: those that each of them prints.
-/
import Derived.Test.YtgpkdhbegkhjjaaDoorMb
import Derived.StillTailTactics
import Derived.BigRegion
import Derived.Laws.CopyRow
namespace Go.Proofs.YtgpkdhbegkhjjaaDoor
open Go.RowKit RelA
namespace RelA
/-- the cells of the other relation's object: its size, then cell by cell -/
def rcells (n : Nat) (M : Nat → Nat → Bool) : Array Value := (Value.int .i64 n :: (List.range 1600).map fun k => Value.bool (M (k / 40) (k % 40))).toArray
theorem rcells_get (n : Nat) (M : Nat → Nat → Bool) (i j : Nat) (hi : i < 40) (hj : j < 40) : (rcells n M)[1 + i * 40 + j]? = some (.bool (M i j)) := by
  have e : 1 + i * 40 + j = (i * 40 + j) + 1 := by omega
  have h1 : i * 40 + j < 1600 := by omega
  have h2 : (i * 40 + j) / 40 = i := by omega
  have h3 : (i * 40 + j) % 40 = j := by omega
  rw [e]
  unfold rcells
  simp [h1, h2, h3]
def updM (M : Nat → Nat → Bool) (i j : Nat) (x : Bool) : Nat → Nat → Bool := fun a b => if a = i ∧ b = j then x else M a b
theorem set_cons (v x : Value) (l : List Value) (k : Nat) : (v :: l).toArray.setIfInBounds (k + 1) x = (v :: l.set k x).toArray := by
  apply Array.ext'
  rw [Array.toList_setIfInBounds]
  rfl
theorem rcells_set (n : Nat) (M : Nat → Nat → Bool) (i j : Nat) (x : Bool) (hi : i < 40) (hj : j < 40) : (rcells n M).setIfInBounds (1 + i * 40 + j) (.bool x) = rcells n (updM M i j x) := by
  have e : 1 + i * 40 + j = (i * 40 + j) + 1 := by omega
  rw [e]
  unfold rcells
  rw [set_cons]
  have key : ((List.range 1600).map fun k => Value.bool (M (k / 40) (k % 40))).set (i * 40 + j) (.bool x) = (List.range 1600).map fun k => Value.bool (updM M i j x (k / 40) (k % 40)) := by
    apply List.ext_getElem?
    intro k
    rw [List.getElem?_set]
    by_cases ek : i * 40 + j = k
    · subst ek
      have h1 : i * 40 + j < 1600 := by omega
      have h2 : (i * 40 + j) / 40 = i := by omega
      have h3 : (i * 40 + j) % 40 = j := by omega
      simp [h1, updM, h2, h3]
    · rw [if_neg ek]
      by_cases hk : k < 1600
      · have : ¬ (k / 40 = i ∧ k % 40 = j) := by omega
        simp [hk, updM, this]
      · simp [hk]
  rw [key]
def refV (n : Int) : Array Value := (Value.int .i64 n :: (List.range 1600).map fun _ => Value.bool false).toArray
theorem refV_nat (n : Nat) : refV n = rcells n (fun _ _ => false) := rfl
def rstep (n : Nat) (M : Nat → Nat → Bool) (p : Int × Int) : Nat → Nat → Bool := if inB n p.1 && inB n p.2 then updM M p.1.toNat p.2.toNat true else M
def rnewM (n : Nat) (l : List (Int × Int)) : Nat → Nat → Bool := l.foldl (rstep n) (fun _ _ => false)
theorem rnewM_take (n : Nat) (l : List (Int × Int)) (k : Nat) (h : k < l.length) : rnewM n (l.take (k + 1)) = rstep n (rnewM n (l.take k)) (l.getD k (0, 0)) := by
  unfold rnewM
  rw [List.take_succ_eq_append_getElem h, List.foldl_append]
  simp [h]
theorem five (N : Nat) (a b : Int) : (0 ≤ a ∧ 0 ≤ b ∧ a < N ∧ b < N ∧ (inB N a && inB N b) = true) ∨ (a < 0 ∧ (inB N a && inB N b) = false) ∨ (0 ≤ a ∧ b < 0 ∧ (inB N a && inB N b) = false) ∨ (0 ≤ a ∧ 0 ≤ b ∧ (N : Int) ≤ a ∧ (inB N a && inB N b) = false) ∨ (0 ≤ a ∧ 0 ≤ b ∧ a < N ∧ (N : Int) ≤ b ∧ (inB N a && inB N b) = false) := by
  unfold inB
  by_cases h1 : 0 ≤ a
  · by_cases h2 : 0 ≤ b
    · by_cases h3 : a < N
      · by_cases h4 : b < N
        · left; simp [h1, h2, h3, h4]
        · right; right; right; right; simp [h1, h2, h3, h4]; omega
      · right; right; right; left; simp [h1, h2, h3]; omega
    · right; right; left; simp [h1, h2]; omega
  · right; left; simp [h1]; omega
end RelA
section
attribute [local go_sem ↓ high] RelA.execOp_max RelA.execOp_min
end
end Go.Proofs.YtgpkdhbegkhjjaaDoor
namespace Go.Proofs.YtgpkdhbegkhjjaaDoor
open Go.RowKit RelA
namespace RelA
/-- what two loops have laid: the rows ahead of k, and of k's row the places ahead of q -/
def rpart (N k q : Nat) (F : Nat → Nat → Bool) : Nat → Nat → Bool := fun i j => ((decide (i < k) && decide (j < N)) || (decide (i = k) && decide (j < q))) && F i j
def rfull (N : Nat) (F : Nat → Nat → Bool) : Nat → Nat → Bool := fun i j => (decide (i < N) && decide (j < N)) && F i j
theorem rpart_zero (N : Nat) (F : Nat → Nat → Bool) (i j : Nat) : rpart N 0 0 F i j = false := by simp [rpart]
theorem rpart_row (N k : Nat) (F : Nat → Nat → Bool) (i j : Nat) : rpart N k N F i j = rpart N (k + 1) 0 F i j := by
  unfold rpart
  by_cases h1 : i < k
  · have : i < k + 1 := by omega
    have h2 : ¬ i = k := by omega
    simp [h1, this, h2]
  · by_cases h2 : i = k
    · subst h2; simp
    · have : ¬ i < k + 1 := by omega
      simp [h1, h2, this]
theorem rpart_full (N k : Nat) (F : Nat → Nat → Bool) (h : k = N) (i j : Nat) : rpart N k 0 F i j = rfull N F i j := by
  subst h; simp [rpart, rfull]
theorem rpart_step (N k q : Nat) (F : Nat → Nat → Bool) (i j : Nat) : updM (rpart N k q F) k q (F k q) i j = rpart N k (q + 1) F i j := by
  unfold updM rpart
  by_cases h : i = k ∧ j = q
  · rw [if_pos h]; obtain ⟨rfl, rfl⟩ := h; simp
  · rw [if_neg h]
    by_cases h1 : i = k
    · subst h1
      have h2 : ¬ j = q := fun e => h ⟨rfl, e⟩
      by_cases h3 : j < q
      · have : j < q + 1 := by omega
        simp [h3, this]
      · have : ¬ j < q + 1 := by omega
        simp [h3, this]
    · simp [h1]
theorem rpart_at (N k q : Nat) (F : Nat → Nat → Bool) : rpart N k q F k q = false := by simp [rpart]
end RelA
section
attribute [local go_sem ↓ high] RelA.execOp_max RelA.execOp_min
attribute [local go_sem] RelA.run_maxOp RelA.run_minOp
end
section
attribute [local go_sem ↓ high] RelA.execOp_max RelA.execOp_min
attribute [local go_sem] RelA.run_maxOp RelA.run_minOp
end
section
attribute [local go_sem ↓ high] RelA.execOp_max RelA.execOp_min
attribute [local go_sem] RelA.run_maxOp RelA.run_minOp
end
end Go.Proofs.YtgpkdhbegkhjjaaDoor
namespace Go.Proofs.YtgpkdhbegkhjjaaDoor
open Go.RowKit RelA
namespace RelA
def mcells (M : Nat → Nat → Bool) : List Value := (List.range 1600).map fun k => Value.bool (M (k / 40) (k % 40))
theorem mcells_len (M : Nat → Nat → Bool) : (mcells M).length = 1600 := by unfold mcells; rw [List.length_map, List.length_range]
theorem mcells_get (M : Nat → Nat → Bool) (k : Nat) (hk : k < 1600) : (mcells M)[k]? = some (.bool (M (k / 40) (k % 40))) := by
  unfold mcells; rw [List.getElem?_map, List.getElem?_range hk]; rfl
theorem rcells_eq (n : Nat) (M : Nat → Nat → Bool) : rcells n M = (Value.int .i64 n :: mcells M).toArray := rfl
theorem mcells_one (M : Nat → Nat → Bool) (v : Value) (hv : v ∈ mcells M) : v.oneCell' = true := by
  unfold mcells at hv
  obtain ⟨k, _, rfl⟩ := List.mem_map.1 hv
  rfl
attribute [irreducible] mcells
attribute [local irreducible] rcells
theorem below_setRow (w : World) (b : Nat) (cs : Array Value) : Below b w (w.setRow b cs) :=
  ⟨rfl, rfl, rfl, by simp, fun k hk => setRow_other w b k cs (by omega)⟩
end RelA

end Go.Proofs.YtgpkdhbegkhjjaaDoor
namespace Go.Proofs.YtgpkdhbegkhjjaaDoor
open Go.RowKit RelA
attribute [local irreducible] RelA.rcells
namespace RelA
/-- what the three loops of Then have laid -/
def tp (N k q x : Nat) (M S : Nat → Nat → Bool) : Nat → Nat → Bool := fun i j =>
  decide (j < N) && ((decide (i < k) && (List.range N).any fun b => M i b && S b j) || (decide (i = k) && (((List.range q).any fun b => M i b && S b j) || (decide (j < x) && (M i q && S q j)))))
def thenM (N : Nat) (M S : Nat → Nat → Bool) : Nat → Nat → Bool := rfull N fun i j => (List.range N).any fun b => M i b && S b j
theorem tp_zero (N : Nat) (M S : Nat → Nat → Bool) (i j : Nat) : tp N 0 0 0 M S i j = false := by simp [tp]
theorem tp_skip (N k q : Nat) (M S : Nat → Nat → Bool) (h : M k q = false) (i j : Nat) : tp N k q 0 M S i j = tp N k (q + 1) 0 M S i j := by
  unfold tp
  rw [List.range_succ, List.any_append]
  by_cases e : i = k
  · subst e; simp [h]
  · simp [e]
theorem tp_end (N k q : Nat) (M S : Nat → Nat → Bool) (i j : Nat) : tp N k q N M S i j = tp N k (q + 1) 0 M S i j := by
  unfold tp
  rw [List.range_succ, List.any_append]
  by_cases e : j < N
  · simp [e]
  · simp [e]
theorem tp_row (N k : Nat) (M S : Nat → Nat → Bool) (i j : Nat) : tp N k N 0 M S i j = tp N (k + 1) 0 0 M S i j := by
  unfold tp
  by_cases h1 : i < k
  · have : i < k + 1 := by omega
    have h2 : ¬ i = k := by omega
    simp [h1, this, h2]
  · by_cases h2 : i = k
    · subst h2; simp
    · have : ¬ i < k + 1 := by omega
      simp [h1, h2, this]
theorem tp_full (N k : Nat) (M S : Nat → Nat → Bool) (h : k = N) (i j : Nat) : tp N k 0 0 M S i j = thenM N M S i j := by
  subst h
  unfold tp thenM rfull
  by_cases h1 : i < k <;> by_cases h2 : j < k <;> simp [h1, h2]
theorem tp_at (N k q x : Nat) (M S : Nat → Nat → Bool) (hx : x < N) : tp N k q x M S k x = (List.range q).any fun b => M k b && S b x := by
  unfold tp; simp [hx]
theorem tp_step (N k q x : Nat) (M S : Nat → Nat → Bool) (hx : x < N) (h : M k q = true) (i j : Nat) : updM (tp N k q x M S) k x (tp N k q x M S k x || S q x) i j = tp N k q (x + 1) M S i j := by
  rw [tp_at N k q x M S hx]
  unfold updM tp
  by_cases h1 : i = k ∧ j = x
  · rw [if_pos h1]; obtain ⟨rfl, rfl⟩ := h1; simp [hx, h]
  · rw [if_neg h1]
    by_cases h2 : i = k
    · subst h2
      have h3 : ¬ j = x := fun e => h1 ⟨rfl, e⟩
      by_cases h4 : j < x
      · have : j < x + 1 := by omega
        simp [h4, this]
      · have : ¬ j < x + 1 := by omega
        simp [h4, this]
    · simp [h2]
end RelA
section
attribute [local go_sem ↓ high] RelA.execOp_max RelA.execOp_min
attribute [local go_sem] RelA.run_maxOp RelA.run_minOp
end
end Go.Proofs.YtgpkdhbegkhjjaaDoor
