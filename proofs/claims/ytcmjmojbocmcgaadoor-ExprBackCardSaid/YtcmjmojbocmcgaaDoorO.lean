import Derived.Test.YtcmjmojbocmcgaaDoorJ
import Derived.Test.YtcmjmojbocmcgaaDoorN
namespace Go.Proofs.YtcmjmojbocmcgaaDoor
open Go.RowKit ExprA
namespace ExprA
def deepT (i : Nat) : List (Int × Int) := (List.range i).map fun (j : Nat) => (2, (j : Int))
theorem deepT_succ (i : Nat) : deepT (i + 1) = deepT i ++ [(2, (i : Int))] := by unfold deepT; rw [List.range_succ, List.map_append]; rfl
theorem deepT_len (i : Nat) : (deepT i).length = i := by unfold deepT; simp
def deepO (k j : Nat) : List (Int × Int) := deepT k ++ List.replicate j (3, 1)
theorem deepO_succ (k j : Nat) : deepO k (j + 1) = deepO k j ++ [(3, 1)] := by unfold deepO; rw [List.replicate_succ', List.append_assoc]
theorem deepO_len (k j : Nat) : (deepO k j).length = k + j := by unfold deepO; simp [deepT_len]
def deepS (R : List Int) : Nat → Int
  | 0 => 0
  | i + 1 => if i < R.length then wrap64 (deepS R i + R.getD i 0) else deepS R i
def In64s (R : List Int) : Prop := ∀ i, i < R.length → -9223372036854775808 ≤ R.getD i 0 ∧ R.getD i 0 ≤ 9223372036854775807
theorem wrap_in (x : Int) : -9223372036854775808 ≤ wrap64 x ∧ wrap64 x ≤ 9223372036854775807 := by unfold wrap64; omega
theorem wrap_id {x : Int} (h : -9223372036854775808 ≤ x ∧ x ≤ 9223372036854775807) : wrap64 x = x := by unfold wrap64; omega
theorem wrap_r (a b : Int) : wrap64 (a + wrap64 b) = wrap64 (a + b) := by unfold wrap64; omega
theorem wrap_l (a b : Int) : wrap64 (wrap64 a + b) = wrap64 (a + b) := by unfold wrap64; omega
theorem deepS_in (R : List Int) (i : Nat) : -9223372036854775808 ≤ deepS R i ∧ deepS R i ≤ 9223372036854775807 := by
  induction i with
  | zero => show -9223372036854775808 ≤ (0 : Int) ∧ (0 : Int) ≤ 9223372036854775807; decide
  | succ i ih =>
    unfold deepS
    split
    · exact wrap_in _
    · exact ih
theorem deepS_succ (R : List Int) (i : Nat) : deepS R (i + 1) = wrap64 (deepS R i + R.getD i 0) := by
  show (if i < R.length then wrap64 (deepS R i + R.getD i 0) else deepS R i) = _
  split
  · rfl
  · have e : R.getD i 0 = 0 := by rw [List.getD_eq_getElem?_getD, List.getElem?_eq_none (by omega)]; rfl
    rw [e, Int.add_zero, wrap_id (deepS_in R i)]
theorem deep_ok (k : Nat) (h1 : 1 ≤ k) (h5 : k ≤ 5) : checkB (deepO k (k - 1)) = true := by
  rcases (show k = 1 ∨ k = 2 ∨ k = 3 ∨ k = 4 ∨ k = 5 by omega) with rfl | rfl | rfl | rfl | rfl <;> rfl
theorem deep_in0 {R : List Int} (h : In64s R) (i : Nat) : -9223372036854775808 ≤ R.getD i 0 ∧ R.getD i 0 ≤ 9223372036854775807 := by
  by_cases hi : i < R.length
  · exact h i hi
  · have e : R.getD i 0 = 0 := by rw [List.getD_eq_getElem?_getD, List.getElem?_eq_none (by omega)]; rfl
    rw [e]; exact ⟨by decide, by decide⟩
theorem deep_eval (k : Nat) (h1 : 1 ≤ k) (h5 : k ≤ 5) (R : List Int) (hR : In64s R) : evalB (deepO k (k - 1)) R = deepS R k := by
  have hw := deep_in0 hR
  rcases (show k = 1 ∨ k = 2 ∨ k = 3 ∨ k = 4 ∨ k = 5 by omega) with rfl | rfl | rfl | rfl | rfl
  · rw [show evalB (deepO 1 (1 - 1)) R = R.getD 0 0 from rfl, deepS_succ, show deepS R 0 = 0 from rfl, Int.zero_add, wrap_id (hw 0)]
  · rw [show evalB (deepO 2 (2 - 1)) R = wrap64 (R.getD 0 0 + R.getD 1 0) from rfl]
    simp only [deepS_succ, wrap_l, show deepS R 0 = 0 from rfl, Int.zero_add]
  · rw [show evalB (deepO 3 (3 - 1)) R = wrap64 (R.getD 0 0 + wrap64 (R.getD 1 0 + R.getD 2 0)) from rfl]
    simp only [deepS_succ, wrap_l, wrap_r, show deepS R 0 = 0 from rfl, Int.zero_add]
    congr 1; omega
  · rw [show evalB (deepO 4 (4 - 1)) R = wrap64 (R.getD 0 0 + wrap64 (R.getD 1 0 + wrap64 (R.getD 2 0 + R.getD 3 0))) from rfl]
    simp only [deepS_succ, wrap_l, wrap_r, ← Int.add_assoc, show deepS R 0 = 0 from rfl, Int.zero_add]
  · rw [show evalB (deepO 5 (5 - 1)) R = wrap64 (R.getD 0 0 + wrap64 (R.getD 1 0 + wrap64 (R.getD 2 0 + wrap64 (R.getD 3 0 + R.getD 4 0)))) from rfl]
    simp only [deepS_succ, wrap_l, wrap_r, show deepS R 0 = 0 from rfl, Int.zero_add]
    congr 1; omega
def deepR (k : Nat) : List Int := (List.range k).map fun (j : Nat) => (j : Int)
theorem deep_regs (k : Nat) (h1 : 1 ≤ k) (h5 : k ≤ 5) : regsTo (deepO k (k - 1)) (deepO k (k - 1)).length = deepR k := by
  rcases (show k = 1 ∨ k = 2 ∨ k = 3 ∨ k = 4 ∨ k = 5 by omega) with rfl | rfl | rfl | rfl | rfl <;> rfl
theorem deep_sort (k : Nat) (h1 : 1 ≤ k) (h5 : k ≤ 5) : sortI (deepR k) = deepR k := by
  refine List.mergeSort_of_pairwise ?_
  rcases (show k = 1 ∨ k = 2 ∨ k = 3 ∨ k = 4 ∨ k = 5 by omega) with rfl | rfl | rfl | rfl | rfl <;> decide
theorem deep_compact (k : Nat) (h1 : 1 ≤ k) (h5 : k ≤ 5) : Lib.compact (deepR k) = deepR k := by
  rcases (show k = 1 ∨ k = 2 ∨ k = 3 ∨ k = 4 ∨ k = 5 by omega) with rfl | rfl | rfl | rfl | rfl <;> decide
theorem deepR_len (k : Nat) : (deepR k).length = k := by unfold deepR; simp
theorem deepR_last (k : Nat) (h1 : 1 ≤ k) : (deepR k).getD (k - 1) 0 = ((k - 1 : Nat) : Int) := by
  unfold deepR
  rw [List.getD_eq_getElem?_getD, List.getElem?_map, List.getElem?_range (by omega)]
  rfl
end ExprA
end Go.Proofs.YtcmjmojbocmcgaaDoor
