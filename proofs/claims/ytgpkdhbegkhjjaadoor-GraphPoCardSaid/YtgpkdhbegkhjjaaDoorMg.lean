/-
  What the functions that the law reaches do, one by one: contracts. Conditions: those that each of them prints.
-/
import Derived.Test.YtgpkdhbegkhjjaaDoorMf
import Derived.Deep.RegionWith
import Derived.Deep.DrawnRows
import Derived.Laws.EntriesVeiled
import Derived.BigRegion
import Derived.StillTailTactics
namespace Go.Proofs.YtgpkdhbegkhjjaaDoor
open Go.RowKit RelA
attribute [local go_sem ↓] Go.wp_at_zero Go.wp_at_succ
end Go.Proofs.YtgpkdhbegkhjjaaDoor
namespace Go.Proofs.YtgpkdhbegkhjjaaDoor
open Go.RowKit RelA
namespace RelA
def seL (p : Nat → Bool) (k : Nat) : List (Nat × Nat) := ((List.range k).filter p).map fun i => (i, i)
theorem seL_yes (p : Nat → Bool) (k : Nat) (h : p k = true) : seL p (k + 1) = seL p k ++ [(k, k)] := by
  unfold seL; rw [List.range_succ, List.filter_append, List.map_append]; simp [h]
theorem seL_no (p : Nat → Bool) (k : Nat) (h : p k = false) : seL p (k + 1) = seL p k := by
  unfold seL; rw [List.range_succ, List.filter_append, List.map_append]; simp [h]
theorem seL_len (p : Nat → Bool) (k : Nat) : (seL p k).length ≤ k := by
  unfold seL; rw [List.length_map]
  have := List.length_filter_le p (List.range k)
  simpa using this
def diagM (n : Nat) (p : Nat → Bool) : Nat → Nat → Bool := fun i j => (decide (i = j) && decide (i < n)) && p i
theorem wf_diag (n : Nat) (p : Nat → Bool) : WFM n (diagM n p) := fun i j a => by
  unfold diagM at a
  rw [Bool.and_eq_true, Bool.and_eq_true, decide_eq_true_eq, decide_eq_true_eq] at a
  omega
theorem ofM_diag (n : Nat) (p : Nat → Bool) : ofM n (castP (seL p n)) = diagM n p := by
  funext i j
  rw [Bool.eq_iff_iff, ofM_iff]
  unfold diagM
  rw [Bool.and_eq_true, Bool.and_eq_true, decide_eq_true_eq, decide_eq_true_eq]
  constructor
  · rintro ⟨q, hq, _, _, e1, e2⟩
    unfold castP seL at hq
    obtain ⟨r, hr, rfl⟩ := List.mem_map.1 hq
    obtain ⟨k, hk, rfl⟩ := List.mem_map.1 hr
    have hk := List.mem_filter.1 hk
    have e3 : k = i := Int.ofNat_inj.1 e1
    have e4 : k = j := Int.ofNat_inj.1 e2
    subst e3 e4
    exact ⟨⟨rfl, List.mem_range.1 hk.1⟩, hk.2⟩
  · rintro ⟨⟨rfl, hi⟩, hp⟩
    refine ⟨((i : Int), (i : Int)), List.mem_map.2 ⟨(i, i), List.mem_map.2 ⟨i, List.mem_filter.2 ⟨List.mem_range.2 hi, hp⟩, rfl⟩, rfl⟩, ?_, ?_, rfl, rfl⟩
    · unfold inB; simp; omega
    · unfold inB; simp; omega
theorem below_trans1 {b : Nat} {w1 w2 w3 : World} (h : Below b w1 w2) (hs : b ≤ w2.heap.size) (g : Below w2.heap.size w2 w3) : Below b w1 w3 := h.trans (g.mono hs)
theorem own_next {w w' : World} {base : Nat} {e : TypeId} {size : Nat} {v : Value} {n : Nat} {xs : List Value} (h : w.ownsRow base e size v n xs) (hb : Below w.heap.size w w') : w'.ownsRow base e size v n xs := by
  obtain ⟨hl, h0 | ⟨g, cap, cur, h1, h2, h3, h4⟩⟩ := h
  · exact ⟨hl, .inl h0⟩
  · exact ⟨hl, .inr ⟨g, cap, cur, h1, h2, (hb.block g (Array.getElem?_eq_some_iff.1 h3).1).trans h3, h4⟩⟩
end RelA
end Go.Proofs.YtgpkdhbegkhjjaaDoor
namespace Go.Proofs.YtgpkdhbegkhjjaaDoor
open Go.RowKit RelA
namespace RelA
def locB (x y : Ev) : Bool := ((x.kd != 3) && (y.kd != 3)) && (x.lc == y.lc)
end RelA
end Go.Proofs.YtgpkdhbegkhjjaaDoor
namespace Go.Proofs.YtgpkdhbegkhjjaaDoor
open Go.RowKit RelA
namespace RelA
theorem ofM_filter {n : Nat} {M : Nat → Nat → Bool} (h : WFM n M) (f : Nat → Nat → Bool) : ofM n (castP ((rpairs n M).filter fun q => f q.1 q.2)) = fun i j => M i j && f i j := by
  funext i j
  rw [Bool.eq_iff_iff, ofM_iff, Bool.and_eq_true]
  constructor
  · rintro ⟨p, hp, _, _, e1, e2⟩
    unfold castP at hp
    obtain ⟨q, hq, rfl⟩ := List.mem_map.1 hp
    have hq := List.mem_filter.1 hq
    have := (rpre_mem n M n q).1 hq.1
    have e3 : q.1 = i := Int.ofNat_inj.1 e1
    have e4 : q.2 = j := Int.ofNat_inj.1 e2
    rw [← e3, ← e4]; exact ⟨this.2.2, hq.2⟩
  · rintro ⟨a, b⟩
    have hw := h i j a
    refine ⟨((i : Int), (j : Int)), List.mem_map.2 ⟨(i, j), List.mem_filter.2 ⟨(rpre_mem n M n (i, j)).2 ⟨hw.1, hw.2, a⟩, b⟩, rfl⟩, ?_, ?_, rfl, rfl⟩
    · unfold inB; simp; omega
    · unfold inB; simp; omega
end RelA
end Go.Proofs.YtgpkdhbegkhjjaaDoor
namespace Go.Proofs.YtgpkdhbegkhjjaaDoor
open Go.RowKit RelA
end Go.Proofs.YtgpkdhbegkhjjaaDoor
namespace Go.Proofs.YtgpkdhbegkhjjaaDoor
open Go.RowKit RelA
namespace RelA
def innerM (E : List Ev) (M : Nat → Nat → Bool) : Nat → Nat → Bool := fun i j => M i j && ((Ev.at E i).th == (Ev.at E j).th)
def outerM (E : List Ev) (M : Nat → Nat → Bool) : Nat → Nat → Bool := fun i j => M i j && !((Ev.at E i).th == (Ev.at E j).th)
def locM (E : List Ev) : Nat → Nat → Bool := fun i j => poM E i j && locB (Ev.at E i) (Ev.at E j)
theorem less_inner (E : List Ev) (M : Nat → Nat → Bool) : lessM M (innerM E M) = outerM E M := by
  funext i j
  unfold lessM innerM outerM
  cases M i j <;> simp
end RelA
attribute [local go_sem ↓] Go.wp_at_zero Go.wp_at_succ
end Go.Proofs.YtgpkdhbegkhjjaaDoor
