import Derived.Test.YtepkjnpbdjmlbaaDoorRelB
import Derived.Below
namespace Go.Proofs.YtepkjnpbdjmlbaaDoor
open Go.RowKit RelA

namespace RelA
def clampN (n : Int) : Nat := (min (max n 0) 40).toNat
def upd (R : Nat → Nat) (a x : Nat) : Nat → Nat := fun i => if i = a then x else R i
def inB (n : Nat) (a : Int) : Bool := decide (0 ≤ a ∧ a < n)
def newStep (n : Nat) (R : Nat → Nat) (p : Int × Int) : Nat → Nat :=
  if inB n p.1 && inB n p.2 then upd R p.1.toNat (R p.1.toNat ||| 2 ^ p.2.toNat) else R
def newR (n : Nat) (l : List (Int × Int)) : Nat → Nat := l.foldl (newStep n) (fun _ => 0)
/-- a slice of pairs reads as l -/
def SlP (w : World) (a : Option Addr) (l : List (Int × Int)) : Prop :=
  (a = none ∧ l = []) ∨ ∃ lb lo, a = some ⟨lb, lo, none⟩ ∧ lb < w.heap.size ∧ ∀ i, i < l.length →
    w.cell? ⟨lb, lo + i * 2, none⟩ = some (.int .i64 (l.getD i (0, 0)).1) ∧ w.cell? ⟨lb, lo + i * 2 + 1, none⟩ = some (.int .i64 (l.getD i (0, 0)).2)
theorem At.lt {w : World} {b n : Nat} {R : Nat → Nat} (h : At w b n R) : b < w.heap.size := block_lt_of_cell h.c0
theorem At.below {w w' : World} {B b n : Nat} {R : Nat → Nat} (h : At w b n R) (hB : Below B w w') (hb : b < B) : At w' b n R := by
  unfold At; rw [hB.block b hb]; exact h
theorem At.alloc {w : World} {b n : Nat} {R : Nat → Nat} (h : At w b n R) (o : Obj) : At (w.alloc o) b n R :=
  h.below ((Below.refl w.heap.size w).alloc (Nat.le_refl _) o) h.lt
theorem cells_set (n : Nat) (R : Nat → Nat) (i x : Nat) : (cells n R).setIfInBounds (1 + i) (.int .u64 x) = cells n (upd R i x) := by
  unfold cells
  apply Array.ext'
  rw [Nat.add_comm 1 i, Array.toList_setIfInBounds]
  show (_ :: _).set (i + 1) _ = _ :: _
  rw [List.set_cons_succ]
  congr 1
  apply List.ext_getElem?
  intro j
  rw [List.getElem?_set]
  by_cases e : i = j
  · subst e
    by_cases hj : i < 40 <;> simp [hj, upd]
  · by_cases hj : j < 40 <;> simp [hj, upd, e, Ne.symm e]
theorem At.set {w : World} {b n : Nat} {R : Nat → Nat} (h : At w b n R) (i x : Nat) : At (w.setCell ⟨b, 1 + i, none⟩ (.int .u64 x)) b n (upd R i x) := by
  unfold At
  rw [heap_setCell_same w b (1 + i) (cells n R) 52 _ h, cells_set]
theorem At.drew {w : World} {b n : Nat} {R : Nat → Nat} (h : At w b n R) : At w.drew b n R := h
theorem At.frozen {w : World} {b n : Nat} {R : Nat → Nat} (h : At w b n R) (j : Nat) : w.frozen? ⟨b, j, none⟩ = false := frozen_of_row w b j _ _ h
theorem zero_at (w : World) (n : Nat) : At (w.alloc (.cells (cells n fun _ => 0) 52 (0, 0))) w.heap.size n (fun _ => 0) := heap_alloc_new _ _
theorem zero_at' (w : World) (N : Nat) (x : Int) (h : (N : Int) = x) : At (w.alloc (.cells #[.int .i64 x, .int .u64 0, .int .u64 0, .int .u64 0, .int .u64 0, .int .u64 0, .int .u64 0, .int .u64 0, .int .u64 0, .int .u64 0, .int .u64 0, .int .u64 0, .int .u64 0, .int .u64 0, .int .u64 0, .int .u64 0, .int .u64 0, .int .u64 0, .int .u64 0, .int .u64 0, .int .u64 0, .int .u64 0, .int .u64 0, .int .u64 0, .int .u64 0, .int .u64 0, .int .u64 0, .int .u64 0, .int .u64 0, .int .u64 0, .int .u64 0, .int .u64 0, .int .u64 0, .int .u64 0, .int .u64 0, .int .u64 0, .int .u64 0, .int .u64 0, .int .u64 0, .int .u64 0, .int .u64 0] 52 (0, 0))) w.heap.size N (fun _ => 0) := by
  subst h; exact zero_at w N
theorem newR_take (n : Nat) (l : List (Int × Int)) (k : Nat) (h : k < l.length) : newR n (l.take (k + 1)) = newStep n (newR n (l.take k)) (l.getD k (0, 0)) := by
  unfold newR
  rw [List.take_succ_eq_append_getElem h, List.foldl_append]
  simp [h]
theorem two_lt (j : Nat) (h : j < 64) : IntKind.u64.wrap (2 ^ j) = ((2 ^ j : Nat) : Int) := by
  have : 2 ^ j < 2 ^ 64 := Nat.pow_lt_pow_right (by omega) h
  rw [IntKind.wrap_u64]
  have e : ((2 : Int) ^ j) = ((2 ^ j : Nat) : Int) := by simp
  rw [e]; generalize 2 ^ j = y at *; omega
theorem pow_lt64 (N x : Nat) (hN : N ≤ 40) (h : x < 2 ^ N) : x < 18446744073709551616 := by
  have : 2 ^ N ≤ 2 ^ 64 := Nat.pow_le_pow_right (by omega) (by omega)
  omega
theorem newStep_lt (n : Nat) (R : Nat → Nat) (p : Int × Int) (h : ∀ i, R i < 2 ^ n) (i : Nat) : newStep n R p i < 2 ^ n := by
  unfold newStep
  split
  · rename_i hp
    rw [Bool.and_eq_true] at hp
    have h2 := of_decide_eq_true hp.2
    unfold upd; split
    · exact Nat.or_lt_two_pow (h _) (Nat.pow_lt_pow_right (by omega) (by omega))
    · exact h i
  · exact h i
theorem newR_lt (n : Nat) (l : List (Int × Int)) : ∀ i, newR n l i < 2 ^ n := by
  unfold newR
  have : ∀ (l : List (Int × Int)) (R : Nat → Nat), (∀ i, R i < 2 ^ n) → ∀ i, l.foldl (newStep n) R i < 2 ^ n := by
    intro l
    induction l with
    | nil => intro R h; exact h
    | cons p l ih => intro R h; exact ih _ (newStep_lt n R p h)
  exact this l _ (fun _ => Nat.pow_pos (by omega))
theorem clampN_le (n : Int) : clampN n ≤ 40 := by unfold clampN; omega
end RelA

theorem there_b (x : Bool) (b n : Nat) (R : Nat → Nat) (a : Int) (w : World) (h : At w b n R) (hx : inB n a = x) :
    Calls Tryd.prog 36 #[.pointer (some ⟨b, 0, none⟩), .int .i64 a] w fun e w' => e = .returned (.bool x) ∧ w = w' := by
  rw [← hx]; exact there_any b n a w h.c0

set_option maxHeartbeats 800000 in
theorem new_some (n : Int) (lb lo : Nat) (l : List (Int × Int)) (cap : Nat) (w : World) (hm : l.length ≤ maxLen) (hlb : lb < w.heap.size) (hc : ∀ i, i < l.length →
    w.cell? ⟨lb, lo + i * 2, none⟩ = some (.int .i64 (l.getD i (0, 0)).1) ∧ w.cell? ⟨lb, lo + i * 2 + 1, none⟩ = some (.int .i64 (l.getD i (0, 0)).2)) :
    Calls Tryd.prog 8 #[.int .i64 n, .slice (some ⟨lb, lo, none⟩) l.length cap] w fun e w' => e = .returned (.pointer (some ⟨w.heap.size, 0, none⟩)) ∧ At w' w.heap.size (clampN n) (newR (clampN n) l) ∧ Below w.heap.size w w' := by
  unfold maxLen at hm
  have HC := Lib.hid hc
  clear hc
  go_enter Tryd.func8, Tryd.ntmps8
  go_wp2_with fail
  all_goals
    go_loopw [15] (fun i wr => ∃ k : Nat, k ≤ l.length ∧ i = .int .i64 k ∧ At wr w.heap.size (clampN n) (newR (clampN n) (l.take k)) ∧ Below w.heap.size w wr) (fun i _ => l.length - (intOf i).toNat)
    case atStart =>
      exact ⟨0, Nat.zero_le _, rfl, zero_at' w _ _ (by unfold clampN; omega), (Below.refl _ _).alloc (Nat.le_refl _) _⟩
    case round =>
      obtain ⟨k, hk, rfl, hat, hbe⟩ := hrel
      by_cases hlt : k < l.length
      · have hcc := HC.out k hlt
        have hc1 := (hbe.cell (p := ⟨lb, lo + k * 2, none⟩) hlb).trans hcc.1
        have hc2 := (hbe.cell (p := ⟨lb, lo + k * 2 + 1, none⟩) hlb).trans hcc.2
        have HT := Lib.hid (newR_take (clampN n) l k hlt)
        have hR := Lib.hid (newR_lt (clampN n) (l.take k))
        clear hcc
        generalize newR (clampN n) (l.take k) = R at *
        generalize l.getD k (0, 0) = p at *
        obtain ⟨pa, pb⟩ := p
        simp only at hc1 hc2
        have HAT := Lib.hid hat
        clear hat
        have hN := clampN_le n
        generalize clampN n = N at *
        cases hA : inB N pa
        · have HA := Lib.hid hA
          clear hA
          go_wp2_with fail
          refine (there_b false _ _ R _ _ (HAT.out.alloc _) HA.out).mono ?_
          rintro e w' ⟨rfl, rfl⟩
          go_wp2_with fail
          go_roundw
          case rel =>
            refine ⟨k + 1, by omega, by go_num, ?_, ?_⟩
            · rw [HT.out]; unfold newStep; rw [HA.out]; exact HAT.out.alloc _
            · exact hbe.alloc hbe.size _
          case measure => simp [intOf]; omega
        · cases hB : inB N pb
          · have HA := Lib.hid hA
            have HB := Lib.hid hB
            clear hA hB
            go_wp2_with fail
            refine (there_b true _ _ R _ _ (HAT.out.alloc _) HA.out).mono ?_
            rintro e w' ⟨rfl, rfl⟩
            go_wp2_with fail
            refine (there_b false _ _ R _ _ (HAT.out.alloc _) HB.out).mono ?_
            rintro e w' ⟨rfl, rfl⟩
            go_wp2_with fail
            go_roundw
            case rel =>
              refine ⟨k + 1, by omega, by go_num, ?_, ?_⟩
              · rw [HT.out]; unfold newStep; rw [HA.out, HB.out]; exact HAT.out.alloc _
              · exact hbe.alloc hbe.size _
            case measure => simp [intOf]; omega
          · have HA := Lib.hid hA
            have HB := Lib.hid hB
            unfold inB at hA hB
            have ha := of_decide_eq_true hA
            have hb := of_decide_eq_true hB
            obtain ⟨i, rfl⟩ := Int.eq_ofNat_of_zero_le ha.1
            obtain ⟨j, rfl⟩ := Int.eq_ofNat_of_zero_le hb.1
            have hi : i < N := by omega
            have hj : j < N := by omega
            clear hA hB ha hb
            go_wp2_with fail
            refine (there_b true _ _ R _ _ (HAT.out.alloc _) HA.out).mono ?_
            rintro e w' ⟨rfl, rfl⟩
            go_wp2_with fail
            refine (there_b true _ _ R _ _ (HAT.out.alloc _) HB.out).mono ?_
            rintro e w' ⟨rfl, rfl⟩
            go_wp2_with fail
            have hcell := (HAT.out.alloc (Obj.cells #[Value.int IntKind.i64 i, Value.int IntKind.i64 j] 37)).ci i (by omega)
            have hfro := (HAT.out.alloc (Obj.cells #[Value.int IntKind.i64 i, Value.int IntKind.i64 j] 37)).frozen (1 + i)
            go_region
            go_wp2_with fail
            go_roundw
            case rel =>
              refine ⟨k + 1, by omega, by go_num, ?_, ?_⟩
              · rw [HT.out]; unfold newStep; rw [HA.out, HB.out, two_lt j (by omega), bits_or_u64_nat (R i) (2 ^ j) (pow_lt64 N _ hN (hR.out i)) (pow_lt64 N _ hN (Nat.pow_lt_pow_right (by omega) (by omega)))]
                exact (HAT.out.alloc _).set i _
              · exact ((hbe.alloc hbe.size _).setCell (Nat.le_refl _) _).drew
            case measure => simp [intOf]; omega
      · have he : k = l.length := by omega
        have HE := Lib.hid he
        clear he
        have HAT := Lib.hid hat
        clear hat
        go_wp2_with fail
        go_ret
        refine ⟨rfl, ?_, hbe⟩
        have := HAT.out
        rw [HE.out, List.take_length] at this
        exact this
end Go.Proofs.YtepkjnpbdjmlbaaDoor
