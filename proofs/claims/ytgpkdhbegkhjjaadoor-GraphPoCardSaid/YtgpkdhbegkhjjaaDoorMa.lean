/-
  What the functions that the law reaches do, one by one: contracts. Conditions: those that each of them prints.
-/
import Derived.Test.YtgpkdhbegkhjjaaDoorRows
import Derived.WalkKit
import Derived.WalkSpells
import Derived.WalkLawsBesides
import Derived.Lib.Hide
import Derived.Lib.TrailingZeros
import Derived.Laws.Rows
import Derived.Deep.QuietTactic
import Derived.BigQuiet
import Derived.Laws.Bits64b
import Derived.Below
import Derived.StillTailTactics
import Derived.Deep.RegionWith
import Derived.BigRegion
import Derived.Deep.RegionHeld3
import Derived.Deep.DrawnRows
namespace Go.Proofs.YtgpkdhbegkhjjaaDoor
open Go.RowKit

namespace RelA
/-- the cells of a relation's object -/
def cells (n : Nat) (R : Nat → Nat) : Array Value := (Value.int .i64 n :: (List.range 40).map fun i => Value.int .u64 (R i)).toArray
/-- a relation's object stands at block b -/
def At (w : World) (b n : Nat) (R : Nat → Nat) : Prop := w.heap[b]? = some (.cells (cells n R) 47 (0, 0))
theorem At.c0 {w b n R} (h : At w b n R) : w.cell? ⟨b, 0, none⟩ = some (.int .i64 n) := by
  rw [cell_of_row w b 0 _ _ _ h]; rfl
theorem cells_get (n : Nat) (R : Nat → Nat) (i : Nat) (hi : i < 40) : (cells n R)[1 + i]? = some (.int .u64 (R i)) := by
  unfold cells; rw [Nat.add_comm]; simp [hi]
theorem At.ci {w b n R} (h : At w b n R) (i : Nat) (hi : i < 40) : w.cell? ⟨b, 1 + i, none⟩ = some (.int .u64 (R i)) := by
  rw [cell_of_row w b _ _ _ _ h]; exact cells_get n R i hi
end RelA
open RelA

set_option maxRecDepth 20000 in
set_option maxHeartbeats 400000 in
theorem there_any (b n : Nat) (a : Int) (w : World) (h : w.cell? ⟨b, 0, none⟩ = some (.int .i64 n)) :
    Calls Tryd.prog 32 #[.pointer (some ⟨b, 0, none⟩), .int .i64 a] w fun e w' => e = .returned (.bool (decide (0 ≤ a ∧ a < n))) ∧ w = w' := by
  by_cases h0 : 0 ≤ a
  · go_enter Tryd.func32, Tryd.ntmps32
    go_wp2
    go_ret
    exact ⟨by simp [h0], rfl⟩
  · go_enter Tryd.func32, Tryd.ntmps32
    go_wp2
    go_ret
    exact ⟨by simp; omega, rfl⟩

end Go.Proofs.YtgpkdhbegkhjjaaDoor
namespace Go.Proofs.YtgpkdhbegkhjjaaDoor
open Go.RowKit RelA

namespace RelA
def hasB (n : Nat) (R : Nat → Nat) (a b : Int) : Bool := decide (0 ≤ a ∧ a < n) && (decide (0 ≤ b ∧ b < n) && (R a.toNat).testBit b.toNat)
theorem bit_and (x j : Nat) (hx : x < 18446744073709551616) : (bits BinOp.and IntKind.u64 ((x : Int) / 2 ^ j) 1 == 1) = x.testBit j := by
  have e : ((x : Int) / 2 ^ j) = ((x / 2 ^ j : Nat) : Int) := by simp
  have h := bits_and_u64_nat (x / 2 ^ j) 1 (Nat.lt_of_le_of_lt (Nat.div_le_self _ _) hx) (by omega)
  rw [e]
  have e1 : ((1 : Nat) : Int) = 1 := rfl
  rw [e1] at h
  rw [h, Nat.and_one_is_mod, Nat.testBit_eq_decide_div_mod_eq, Bool.eq_iff_iff]
  simp
  omega
end RelA

namespace RelA
/-- the table that math/bits reads stands in block 0 -/
def Tab (w : World) : Prop := ∀ k, k < 64 → w.cell? ⟨0, k, none⟩ = some (.int .u8 (Lib.deBruijn64tab.getD k 0))
end RelA
namespace RelA
theorem tz_eq (x : Nat) (h0 : x ≠ 0) (hx : x < 18446744073709551616) : ∃ idx, idx < 64 ∧ Lib.deBruijn64tab.getD idx 0 = Lib.ctz 64 x ∧
    IntKind.u64.wrap (bits BinOp.and IntKind.u64 (x : Int) (IntKind.u64.wrap (-(x : Int))) * 285870213051353865) / 288230376151711744 = (idx : Int) := by
  obtain ⟨hl, hc⟩ := Lib.lowest_bit 64 x h0 (by omega)
  have hd := Lib.deBruijn64_at (Lib.ctz 64 x) hc
  have e : IntKind.u64.wrap (-(x : Int)) = ((2 ^ 64 - x : Nat) : Int) := by
    rw [IntKind.wrap_u64]; omega
  have e2 := bits_and_u64_nat x (2 ^ 64 - x) hx (by omega)
  rw [e, e2, hl]
  refine ⟨2 ^ Lib.ctz 64 x * 285870213051353865 % 18446744073709551616 / 288230376151711744, hd.1, hd.2, ?_⟩
  rw [IntKind.wrap_u64]
  generalize 2 ^ Lib.ctz 64 x = y
  omega
theorem ctz_lt (x : Nat) (h0 : x ≠ 0) (hx : x < 18446744073709551616) : Lib.ctz 64 x < 64 :=
  (Lib.lowest_bit 64 x h0 (by omega)).2
end RelA
set_option maxRecDepth 20000 in
set_option maxHeartbeats 400000 in
theorem tz_any (x : Nat) (w : World) (h : Tab w) (h0 : x ≠ 0) (hx : x < 18446744073709551616) :
    Calls Tryd.prog 19 #[.int .u64 x] w fun e w' => e = .returned (.int .i64 (Lib.ctz 64 x)) ∧ w = w' := by
  obtain ⟨idx, hi, hg, he⟩ := tz_eq x h0 hx
  have hc := h idx hi
  rw [hg] at hc
  have hk := ctz_lt x h0 hx
  have hz : ((x : Int) == 0) = false := by simp; omega
  generalize Lib.ctz 64 x = k at *
  clear h h0 hg hx
  go_enter Tryd.func19, Tryd.ntmps19
  go_wp2
  go_ret
  exact ⟨rfl, rfl⟩
end Go.Proofs.YtgpkdhbegkhjjaaDoor
namespace Go.Proofs.YtgpkdhbegkhjjaaDoor
open Go.RowKit RelA

namespace RelA
def clampN (n : Int) : Nat := (min (max n 0) 40).toNat
def upd (R : Nat → Nat) (a x : Nat) : Nat → Nat := fun i => if i = a then x else R i
def inB (n : Nat) (a : Int) : Bool := decide (0 ≤ a ∧ a < n)
def newStep (n : Nat) (R : Nat → Nat) (p : Int × Int) : Nat → Nat :=
  if inB n p.1 && inB n p.2 then upd R p.1.toNat (R p.1.toNat ||| 2 ^ p.2.toNat) else R
def newR (n : Nat) (l : List (Int × Int)) : Nat → Nat := l.foldl (newStep n) (fun _ => 0)
/-- a slice of pairs reads as l -/
def SlP (w : World) (a : Option Addr) (l : List (Int × Int)) : Prop :=
  (a = none ∧ l = []) ∨ ∃ lb lo, a = some ⟨lb, lo, none⟩ ∧ lb < w.heap.size ∧ ∀ i, i < l.length →
    w.cell? ⟨lb, lo + i * 2, none⟩ = some (.int .i64 (l.getD i (0, 0)).1) ∧ w.cell? ⟨lb, lo + i * 2 + 1, none⟩ = some (.int .i64 (l.getD i (0, 0)).2)
theorem At.lt {w : World} {b n : Nat} {R : Nat → Nat} (h : At w b n R) : b < w.heap.size := block_lt_of_cell h.c0
theorem At.below {w w' : World} {B b n : Nat} {R : Nat → Nat} (h : At w b n R) (hB : Below B w w') (hb : b < B) : At w' b n R := by
  unfold At; rw [hB.block b hb]; exact h
theorem At.alloc {w : World} {b n : Nat} {R : Nat → Nat} (h : At w b n R) (o : Obj) : At (w.alloc o) b n R :=
  h.below ((Below.refl w.heap.size w).alloc (Nat.le_refl _) o) h.lt
theorem cells_set (n : Nat) (R : Nat → Nat) (i x : Nat) : (cells n R).setIfInBounds (1 + i) (.int .u64 x) = cells n (upd R i x) := by
  unfold cells
  apply Array.ext'
  rw [Nat.add_comm 1 i, Array.toList_setIfInBounds]
  show (_ :: _).set (i + 1) _ = _ :: _
  rw [List.set_cons_succ]
  congr 1
  apply List.ext_getElem?
  intro j
  rw [List.getElem?_set]
  by_cases e : i = j
  · subst e
    by_cases hj : i < 40 <;> simp [hj, upd]
  · by_cases hj : j < 40 <;> simp [hj, upd, e, Ne.symm e]
theorem At.set {w : World} {b n : Nat} {R : Nat → Nat} (h : At w b n R) (i x : Nat) : At (w.setCell ⟨b, 1 + i, none⟩ (.int .u64 x)) b n (upd R i x) := by
  unfold At
  rw [heap_setCell_same w b (1 + i) (cells n R) 47 _ h, cells_set]
theorem At.drew {w : World} {b n : Nat} {R : Nat → Nat} (h : At w b n R) : At w.drew b n R := h
theorem At.frozen {w : World} {b n : Nat} {R : Nat → Nat} (h : At w b n R) (j : Nat) : w.frozen? ⟨b, j, none⟩ = false := frozen_of_row w b j _ _ h
theorem zero_at (w : World) (n : Nat) : At (w.alloc (.cells (cells n fun _ => 0) 47 (0, 0))) w.heap.size n (fun _ => 0) := heap_alloc_new _ _
theorem zero_at' (w : World) (N : Nat) (x : Int) (h : (N : Int) = x) : At (w.alloc (.cells #[.int .i64 x, .int .u64 0, .int .u64 0, .int .u64 0, .int .u64 0, .int .u64 0, .int .u64 0, .int .u64 0, .int .u64 0, .int .u64 0, .int .u64 0, .int .u64 0, .int .u64 0, .int .u64 0, .int .u64 0, .int .u64 0, .int .u64 0, .int .u64 0, .int .u64 0, .int .u64 0, .int .u64 0, .int .u64 0, .int .u64 0, .int .u64 0, .int .u64 0, .int .u64 0, .int .u64 0, .int .u64 0, .int .u64 0, .int .u64 0, .int .u64 0, .int .u64 0, .int .u64 0, .int .u64 0, .int .u64 0, .int .u64 0, .int .u64 0, .int .u64 0, .int .u64 0, .int .u64 0, .int .u64 0] 47 (0, 0))) w.heap.size N (fun _ => 0) := by
  subst h; exact zero_at w N
theorem newR_take (n : Nat) (l : List (Int × Int)) (k : Nat) (h : k < l.length) : newR n (l.take (k + 1)) = newStep n (newR n (l.take k)) (l.getD k (0, 0)) := by
  unfold newR
  rw [List.take_succ_eq_append_getElem h, List.foldl_append]
  simp [h]
theorem two_lt (j : Nat) (h : j < 64) : IntKind.u64.wrap (2 ^ j) = ((2 ^ j : Nat) : Int) := by
  have : 2 ^ j < 2 ^ 64 := Nat.pow_lt_pow_right (by omega) h
  rw [IntKind.wrap_u64]
  have e : ((2 : Int) ^ j) = ((2 ^ j : Nat) : Int) := by simp
  rw [e]; generalize 2 ^ j = y at *; omega
theorem pow_lt64 (N x : Nat) (hN : N ≤ 40) (h : x < 2 ^ N) : x < 18446744073709551616 := by
  have : 2 ^ N ≤ 2 ^ 64 := Nat.pow_le_pow_right (by omega) (by omega)
  omega
theorem newStep_lt (n : Nat) (R : Nat → Nat) (p : Int × Int) (h : ∀ i, R i < 2 ^ n) (i : Nat) : newStep n R p i < 2 ^ n := by
  unfold newStep
  split
  · rename_i hp
    rw [Bool.and_eq_true] at hp
    have h2 := of_decide_eq_true hp.2
    unfold upd; split
    · exact Nat.or_lt_two_pow (h _) (Nat.pow_lt_pow_right (by omega) (by omega))
    · exact h i
  · exact h i
theorem newR_lt (n : Nat) (l : List (Int × Int)) : ∀ i, newR n l i < 2 ^ n := by
  unfold newR
  have : ∀ (l : List (Int × Int)) (R : Nat → Nat), (∀ i, R i < 2 ^ n) → ∀ i, l.foldl (newStep n) R i < 2 ^ n := by
    intro l
    induction l with
    | nil => intro R h; exact h
    | cons p l ih => intro R h; exact ih _ (newStep_lt n R p h)
  exact this l _ (fun _ => Nat.pow_pos (by omega))
theorem clampN_le (n : Int) : clampN n ≤ 40 := by unfold clampN; omega
end RelA

theorem there_b (x : Bool) (b n : Nat) (R : Nat → Nat) (a : Int) (w : World) (h : At w b n R) (hx : inB n a = x) :
    Calls Tryd.prog 32 #[.pointer (some ⟨b, 0, none⟩), .int .i64 a] w fun e w' => e = .returned (.bool x) ∧ w = w' := by
  rw [← hx]; exact there_any b n a w h.c0

set_option maxRecDepth 20000 in
set_option maxHeartbeats 800000 in
theorem new_some (n : Int) (lb lo : Nat) (l : List (Int × Int)) (cap : Nat) (w : World) (hm : l.length ≤ maxLen) (hlb : lb < w.heap.size) (hc : ∀ i, i < l.length →
    w.cell? ⟨lb, lo + i * 2, none⟩ = some (.int .i64 (l.getD i (0, 0)).1) ∧ w.cell? ⟨lb, lo + i * 2 + 1, none⟩ = some (.int .i64 (l.getD i (0, 0)).2)) :
    Calls Tryd.prog 22 #[.int .i64 n, .slice (some ⟨lb, lo, none⟩) l.length cap] w fun e w' => e = .returned (.pointer (some ⟨w.heap.size, 0, none⟩)) ∧ At w' w.heap.size (clampN n) (newR (clampN n) l) ∧ Below w.heap.size w w' := by
  unfold maxLen at hm
  have HC := Lib.hid hc
  clear hc
  go_enter Tryd.func22, Tryd.ntmps22
  go_wp2_with fail
  all_goals
    go_loopw [15] (fun i wr => ∃ k : Nat, k ≤ l.length ∧ i = .int .i64 k ∧ At wr w.heap.size (clampN n) (newR (clampN n) (l.take k)) ∧ Below w.heap.size w wr) (fun i _ => l.length - (intOf i).toNat)
    case atStart =>
      exact ⟨0, Nat.zero_le _, rfl, zero_at' w _ _ (by unfold clampN; omega), (Below.refl _ _).alloc (Nat.le_refl _) _⟩
    case round =>
      obtain ⟨k, hk, rfl, hat, hbe⟩ := hrel
      by_cases hlt : k < l.length
      · have hcc := HC.out k hlt
        have hc1 := (hbe.cell (p := ⟨lb, lo + k * 2, none⟩) hlb).trans hcc.1
        have hc2 := (hbe.cell (p := ⟨lb, lo + k * 2 + 1, none⟩) hlb).trans hcc.2
        have HT := Lib.hid (newR_take (clampN n) l k hlt)
        have hR := Lib.hid (newR_lt (clampN n) (l.take k))
        clear hcc
        generalize newR (clampN n) (l.take k) = R at *
        generalize l.getD k (0, 0) = p at *
        obtain ⟨pa, pb⟩ := p
        simp only at hc1 hc2
        have HAT := Lib.hid hat
        clear hat
        have hN := clampN_le n
        generalize clampN n = N at *
        cases hA : inB N pa
        · have HA := Lib.hid hA
          clear hA
          go_wp2_with fail
          refine (there_b false _ _ R _ _ (HAT.out.alloc _) HA.out).mono ?_
          rintro e w' ⟨rfl, rfl⟩
          go_wp2_with fail
          go_roundw
          case rel =>
            refine ⟨k + 1, by omega, by go_num, ?_, ?_⟩
            · rw [HT.out]; unfold newStep; rw [HA.out]; exact HAT.out.alloc _
            · exact hbe.alloc hbe.size _
          case measure => simp [intOf]; omega
        · cases hB : inB N pb
          · have HA := Lib.hid hA
            have HB := Lib.hid hB
            clear hA hB
            go_wp2_with fail
            refine (there_b true _ _ R _ _ (HAT.out.alloc _) HA.out).mono ?_
            rintro e w' ⟨rfl, rfl⟩
            go_wp2_with fail
            refine (there_b false _ _ R _ _ (HAT.out.alloc _) HB.out).mono ?_
            rintro e w' ⟨rfl, rfl⟩
            go_wp2_with fail
            go_roundw
            case rel =>
              refine ⟨k + 1, by omega, by go_num, ?_, ?_⟩
              · rw [HT.out]; unfold newStep; rw [HA.out, HB.out]; exact HAT.out.alloc _
              · exact hbe.alloc hbe.size _
            case measure => simp [intOf]; omega
          · have HA := Lib.hid hA
            have HB := Lib.hid hB
            unfold inB at hA hB
            have ha := of_decide_eq_true hA
            have hb := of_decide_eq_true hB
            obtain ⟨i, rfl⟩ := Int.eq_ofNat_of_zero_le ha.1
            obtain ⟨j, rfl⟩ := Int.eq_ofNat_of_zero_le hb.1
            have hi : i < N := by omega
            have hj : j < N := by omega
            clear hA hB ha hb
            go_wp2_with fail
            refine (there_b true _ _ R _ _ (HAT.out.alloc _) HA.out).mono ?_
            rintro e w' ⟨rfl, rfl⟩
            go_wp2_with fail
            refine (there_b true _ _ R _ _ (HAT.out.alloc _) HB.out).mono ?_
            rintro e w' ⟨rfl, rfl⟩
            go_wp2_with fail
            have hcell := (HAT.out.alloc (Obj.cells #[Value.int IntKind.i64 i, Value.int IntKind.i64 j] 40)).ci i (by omega)
            have hfro := (HAT.out.alloc (Obj.cells #[Value.int IntKind.i64 i, Value.int IntKind.i64 j] 40)).frozen (1 + i)
            go_region
            go_wp2_with fail
            go_roundw
            case rel =>
              refine ⟨k + 1, by omega, by go_num, ?_, ?_⟩
              · rw [HT.out]; unfold newStep; rw [HA.out, HB.out, two_lt j (by omega), bits_or_u64_nat (R i) (2 ^ j) (pow_lt64 N _ hN (hR.out i)) (pow_lt64 N _ hN (Nat.pow_lt_pow_right (by omega) (by omega)))]
                exact (HAT.out.alloc _).set i _
              · exact ((hbe.alloc hbe.size _).setCell (Nat.le_refl _) _).drew
            case measure => simp [intOf]; omega
      · have he : k = l.length := by omega
        have HE := Lib.hid he
        clear he
        have HAT := Lib.hid hat
        clear hat
        go_wp2_with fail
        go_ret
        refine ⟨rfl, ?_, hbe⟩
        have := HAT.out
        rw [HE.out, List.take_length] at this
        exact this
end Go.Proofs.YtgpkdhbegkhjjaaDoor
namespace Go.Proofs.YtgpkdhbegkhjjaaDoor
open Go.RowKit RelA

set_option maxRecDepth 20000 in
set_option maxHeartbeats 400000 in
theorem or1 (x y : Nat) (w : World) (hx : x < 18446744073709551616) (hy : y < 18446744073709551616) :
    Calls Tryd.prog 31 #[.int .u64 x, .int .u64 y] w fun e w' => e = .returned (.int .u64 (x ||| y : Nat)) ∧ w = w' := by
  have h := bits_or_u64_nat x y hx hy
  clear hx hy
  go_enter Tryd.func31, Tryd.ntmps31
  go_wp2_with fail
  go_ret
  exact ⟨rfl, rfl⟩
set_option maxRecDepth 20000 in
set_option maxHeartbeats 800000 in
theorem bits_andNot_u64_nat (a b : Nat) (ha : a < 18446744073709551616) (hb : b < 18446744073709551616) :
    bits .andNot .u64 (a : Int) (b : Int) = ((a ^^^ (a &&& b) : Nat) : Int) := by
  have h1 : (BitVec.ofInt 64 (a : Int)).toNat = a := by
    rw [BitVec.ofInt_natCast, BitVec.toNat_ofNat]; exact Nat.mod_eq_of_lt (by omega)
  have h2 : (BitVec.ofInt 64 (b : Int)).toNat = b := by
    rw [BitVec.ofInt_natCast, BitVec.toNat_ofNat]; exact Nat.mod_eq_of_lt (by omega)
  show IntKind.u64.wrap ((BitVec.ofInt 64 (a : Int) &&& ~~~ BitVec.ofInt 64 (b : Int)).toNat : Int) = _
  have e : BitVec.ofInt 64 (a : Int) &&& ~~~ BitVec.ofInt 64 (b : Int) = BitVec.ofInt 64 (a : Int) ^^^ (BitVec.ofInt 64 (a : Int) &&& BitVec.ofInt 64 (b : Int)) := by
    ext i hi
    simp only [BitVec.getElem_and, BitVec.getElem_not, BitVec.getElem_xor]
    cases (BitVec.ofInt 64 (a : Int))[i] <;> cases (BitVec.ofInt 64 (b : Int))[i] <;> rfl
  rw [e, BitVec.toNat_xor, BitVec.toNat_and, h1, h2, IntKind.wrap_u64]
  have hx : a ^^^ (a &&& b) < 2 ^ 64 := Nat.xor_lt_two_pow (by omega) (Nat.and_lt_two_pow _ (by omega))
  omega
theorem RelA.At.congr {w : World} {b n : Nat} {R S : Nat → Nat} (h : At w b n R) (e : ∀ i, i < 40 → R i = S i) : At w b n S := by
  have : cells n R = cells n S := by
    unfold cells
    congr 2
    apply List.map_congr_left
    intro i hi
    rw [e i (List.mem_range.1 hi)]
  unfold At; rw [← this]; exact h
theorem enter40 (x y : Value) (w : World) : Sem.run Tryd.prog (callFunc 31 #[x, y]) w = .ok (.enter 31 #[x, y]) w := by go_simp

set_option maxRecDepth 20000 in
set_option maxHeartbeats 800000 in
theorem both_any (F : FuncId) (op : Nat → Nat → Nat) (hf : ∀ (x y : Nat) (w : World), x < 2 ^ 40 → y < 2 ^ 40 → Calls Tryd.prog F #[.int .u64 x, .int .u64 y] w fun e w' => e = .returned (.int .u64 (op x y : Nat)) ∧ w' = w)
    (hent : ∀ (x y : Value) (w : World), Sem.run Tryd.prog (callFunc F #[x, y]) w = .ok (.enter F #[x, y]) w)
    (b n c m : Nat) (R S : Nat → Nat) (w : World) (hb : At w b n R) (hc : At w c m S) (hR : ∀ i, R i < 2 ^ 40) (hS : ∀ i, S i < 2 ^ 40) :
    Calls Tryd.prog 30 #[.pointer (some ⟨b, 0, none⟩), .pointer (some ⟨c, 0, none⟩), .func (.func F) #[] #[]] w fun e w' => e = .returned (.pointer (some ⟨w.heap.size, 0, none⟩)) ∧ At w' w.heap.size (max n m) (fun i => op (R i) (S i)) ∧ Below w.heap.size w w' := by
  have hb0 := hb.c0
  have hc0 := hc.c0
  have HF := Lib.hid hf
  have HR := Lib.hid hR
  have HS := Lib.hid hS
  have HB := Lib.hid hb
  have HC := Lib.hid hc
  clear hf hR hS hb hc
  by_cases hnm : m ≤ n
  all_goals
    go_enter Tryd.func30, Tryd.ntmps30
    go_wp2_with fail
    go_region
    go_wp2_with fail
    go_loopw [20] (fun i wr => ∃ k : Nat, k ≤ 40 ∧ i = .int .i64 k ∧ At wr w.heap.size (max n m) (fun j => if j < k then op (R j) (S j) else 0) ∧ Below w.heap.size w wr) (fun i _ => 40 - (intOf i).toNat)
    case atStart =>
      refine ⟨0, Nat.zero_le _, rfl, ?_, ((Below.refl _ _).alloc (Nat.le_refl _) _).drew⟩
      exact (zero_at' w (max n m) _ (by omega)).drew
    case round =>
      obtain ⟨k, hk, rfl, hat, hbe⟩ := hrel
      by_cases hlt : k < 40
      · have hb1 := (HB.out.below hbe HB.out.lt).ci k hlt
        have hc1 := (HC.out.below hbe HC.out.lt).ci k hlt
        have hfz := hat.frozen (1 + k)
        have hd := hat.ci k hlt
        have HAT := Lib.hid hat
        have HX := HF.out (R k) (S k) wr.drew (HR.out k) (HS.out k)
        have HX' := Lib.hid HX
        clear hat HX
        go_wp2_with fail
        refine wp_region_still_tail 19 (by kernel_rfl) (by kernel_rfl) ?_
        simp only [List.take_succ_cons, List.take_zero, List.drop_succ_cons, List.drop_zero]
        show wpStill _ _ wr.drew (fun a' => wpList _ _ _ _ a' wr.drew) _ _
        repeat still_step
        still_call HX'.out
        repeat still_step
        refine wpStill_nil ?_
        go_wp2_with fail
        go_roundw
        case rel =>
          refine ⟨k + 1, by omega, by go_num, ?_, (hbe.setCell (Nat.le_refl _) _).drew⟩
          refine ((HAT.out.set k (op (R k) (S k))).drew).congr fun j _ => ?_
          unfold upd
          by_cases e : j = k
          · subst e; simp
          · rw [if_neg e]
            show (if j < k then op (R j) (S j) else 0) = _
            by_cases e2 : j < k
            · rw [if_pos e2, if_pos (by omega)]
            · rw [if_neg e2, if_neg (by omega)]
        case measure => simp [intOf]; omega
      · have hk40 : 40 ≤ k := by omega
        have HAT := Lib.hid hat
        clear hat
        go_wp2_with fail
        go_ret
        exact ⟨rfl, HAT.out.congr fun i hi => by rw [if_pos (by omega)], hbe⟩

theorem lt64 {x : Nat} (h : x < 2 ^ 40) : x < 18446744073709551616 := by omega
set_option maxRecDepth 20000 in
set_option maxHeartbeats 400000 in
theorem or_any (b n c m : Nat) (R S : Nat → Nat) (w : World) (hb : At w b n R) (hc : At w c m S) (hR : ∀ i, R i < 2 ^ 40) (hS : ∀ i, S i < 2 ^ 40) :
    Calls Tryd.prog 20 #[.pointer (some ⟨b, 0, none⟩), .pointer (some ⟨c, 0, none⟩)] w fun e w' => e = .returned (.pointer (some ⟨w.heap.size, 0, none⟩)) ∧ At w' w.heap.size (max n m) (fun i => R i ||| S i) ∧ Below w.heap.size w w' := by
  have H := Lib.hid (both_any 31 (· ||| ·) (fun x y w hx hy => (or1 x y w (lt64 hx) (lt64 hy)).mono fun e w' h => ⟨h.1, h.2.symm⟩) enter40 b n c m R S w hb hc hR hS)
  clear hb hc hR hS
  go_enter Tryd.func20, Tryd.ntmps20
  go_wp2_with fail
  refine H.out.mono ?_
  rintro e w' ⟨rfl, h1, h2⟩
  have H1 := Lib.hid h1
  clear h1
  go_wp2_with fail
  go_ret
  exact ⟨rfl, H1.out, h2⟩
end Go.Proofs.YtgpkdhbegkhjjaaDoor
namespace Go.Proofs.YtgpkdhbegkhjjaaDoor
namespace RelA
/-- the number whose bits below n are p's -/
def bitsOf (p : Nat → Bool) : Nat → Nat
  | 0 => 0
  | n + 1 => bitsOf p n ||| (if p n then 2 ^ n else 0)
theorem testBit_bitsOf (p : Nat → Bool) (n i : Nat) : (bitsOf p n).testBit i = (decide (i < n) && p i) := by
  induction n with
  | zero => simp [bitsOf]
  | succ n ih =>
    unfold bitsOf
    rw [Nat.testBit_or, ih]
    by_cases h : i < n
    · have h2 : ¬ n = i := by omega
      cases hp : p n <;> simp [h, h2] <;> omega
    · by_cases e : i = n
      · subst e; cases hp : p i <;> simp
      · have h2 : ¬ n = i := by omega
        have h3 : ¬ i < n + 1 := by omega
        cases hp : p n <;> simp [h, h2, h3]
theorem bitsOf_lt (p : Nat → Bool) (n : Nat) : bitsOf p n < 2 ^ n := by
  apply Nat.lt_pow_two_of_testBit
  intro i hi
  rw [testBit_bitsOf]
  simp; omega
theorem bit_lt {x i : Nat} (h : x < 2 ^ 40) (hb : x.testBit i = true) : i < 40 := by
  by_cases hi : i < 40
  · exact hi
  · have : x < 2 ^ i := Nat.lt_of_lt_of_le h (Nat.pow_le_pow_right (by omega) (by omega))
    rw [Nat.testBit_lt_two_pow this] at hb
    cases hb
theorem ctz_bits (x : Nat) (h0 : x ≠ 0) (hx : x < 2 ^ 64) (j : Nat) : (x &&& (x - 1)).testBit j = (x.testBit j && decide (j ≠ Lib.ctz 64 x)) ∧ x.testBit (Lib.ctz 64 x) = true := by
  obtain ⟨m, hm, hk⟩ := Lib.ctzFrom_spec 64 x (by omega) hx
  have e : Lib.ctz 64 x = Lib.ctzFrom 64 x := by simp [Lib.ctz, h0]
  rw [e]
  generalize Lib.ctzFrom 64 x = k at *
  have hp : 0 < 2 ^ k := Nat.pow_pos (by omega)
  have hm1 : x - 1 = 2 ^ k * (2 * m) + (2 ^ k - 1) := by
    rw [hm, Nat.mul_add]; omega
  have b1 : ∀ j, x.testBit j = (decide (j ≥ k) && (2 * m + 1).testBit (j - k)) := by
    intro j; rw [hm, Nat.testBit_two_pow_mul]
  have b2 : ∀ j, (x - 1).testBit j = if j < k then (2 ^ k - 1).testBit j else (2 * m).testBit (j - k) := by
    intro j; rw [hm1, Nat.testBit_two_pow_mul_add _ (by omega)]
  constructor
  · rw [Nat.testBit_and, b1, b2]
    by_cases hj : j < k
    · have : ¬ k ≤ j := by omega
      simp [this]
    · have h2 : k ≤ j := by omega
      simp only [ge_iff_le, h2, decide_true, Bool.true_and, hj, if_false]
      obtain ⟨d, rfl⟩ : ∃ d, j = k + d := ⟨j - k, by omega⟩
      rw [Nat.add_sub_cancel_left]
      cases d with
      | zero => simp
      | succ d =>
        rw [Nat.testBit_succ, Nat.testBit_succ]
        have : (2 * m + 1) / 2 = m := by omega
        rw [this]
        have : (2 * m) / 2 = m := by omega
        rw [this]
        simp
  · rw [b1]; simp
theorem clear_lt (x : Nat) (h0 : x ≠ 0) : x &&& (x - 1) < x := by
  have : x &&& (x - 1) ≤ x - 1 := Nat.and_le_right
  omega
theorem ctz_lt40 (x : Nat) (h0 : x ≠ 0) (hx : x < 2 ^ 40) : Lib.ctz 64 x < 40 :=
  bit_lt hx (ctz_bits x h0 (by omega) 0).2

/-- all rows of S that x names, together -/
def U (S : Nat → Nat) (x : Nat) : Nat := bitsOf (fun i => (List.range 40).any fun j => x.testBit j && (S j).testBit i) 40
theorem U_lt (S : Nat → Nat) (x : Nat) : U S x < 2 ^ 40 := bitsOf_lt _ _
theorem U_zero (S : Nat → Nat) : U S 0 = 0 := by
  apply Nat.eq_of_testBit_eq
  intro i
  unfold U
  rw [testBit_bitsOf]
  simp
theorem U_bit (S : Nat → Nat) (x i : Nat) : (U S x).testBit i = true ↔ i < 40 ∧ ∃ j, j < 40 ∧ x.testBit j = true ∧ (S j).testBit i = true := by
  unfold U
  rw [testBit_bitsOf]
  simp
theorem U_step (S : Nat → Nat) (x : Nat) (hS : ∀ i, S i < 2 ^ 40) (h0 : x ≠ 0) (hx : x < 2 ^ 40) : U S x = S (Lib.ctz 64 x) ||| U S (x &&& (x - 1)) := by
  apply Nat.eq_of_testBit_eq
  intro i
  rw [Nat.testBit_or, Bool.eq_iff_iff, Bool.or_eq_true, U_bit, U_bit]
  have hb := ctz_bits x h0 (by omega)
  constructor
  · rintro ⟨hi, j, hj, h1, h2⟩
    by_cases e : j = Lib.ctz 64 x
    · subst e; exact .inl h2
    · exact .inr ⟨hi, j, hj, by rw [(hb j).1, h1]; simpa using e, h2⟩
  · rintro (h | ⟨hi, j, hj, h1, h2⟩)
    · exact ⟨bit_lt (hS _) h, _, ctz_lt40 x h0 hx, (hb 0).2, h⟩
    · rw [(hb j).1, Bool.and_eq_true] at h1
      exact ⟨hi, j, hj, h1.1, h2⟩
end RelA
end Go.Proofs.YtgpkdhbegkhjjaaDoor
namespace Go.Proofs.YtgpkdhbegkhjjaaDoor
open Go.RowKit RelA

namespace RelA
def rowsOf (R : Nat → Nat) : Array Value := ((List.range 40).map fun i => Value.int .u64 (R i)).toArray
theorem rowsOf_size (R : Nat → Nat) : (rowsOf R).size = 40 := by simp [rowsOf]
theorem rowsOf_get (R : Nat → Nat) (k : Nat) (h : k < 40) : (rowsOf R)[k]? = some (.int .u64 (R k)) := by simp [rowsOf, h]
theorem run_loadVar_rows {w : World} {b n : Nat} {R : Nat → Nat} (h : At w b n R) : (loadVar 45 ⟨b, 1, none⟩).run Tryd.prog w = .ok (.agg (rowsOf R)) w := by
  have hl : (loadCells ⟨b, 1, none⟩ ((List.range 40).map fun i => Value.int .u64 (R i)).length).run Tryd.prog w = .ok (rowsOf R) w :=
    run_loadCells_list (P := Tryd.prog) w ⟨b, 1, none⟩ ((List.range 40).map fun i => Value.int .u64 (R i)) (fun j v hv => by
      have hj : j < 40 := by
        have := (List.getElem?_eq_some_iff.1 hv).1
        simpa using this
      have hadd : (⟨b, 1, none⟩ : Addr).add j = ⟨b, 1 + j, none⟩ := by unfold Addr.add; simp
      rw [hadd, h.ci j hj]
      simpa [hj] using hv)
  rw [List.length_map, List.length_range] at hl
  have hagg : (isAgg 45).run Tryd.prog w = .ok true w := by kernel_rfl
  simp [loadVar, Sem.run_bind, hagg, hl]
theorem wpList_load_rows {ops : Array Oper} {rest : List Oper} {o : Oper} {a : Act} {w : World} {Q : Exit → Act → World → Prop} (hgd : o.guard = none) (x : Operand) (ho : o.op = .load 45 x)
    (b n : Nat) (R : Nat → Nat) (hx : a.eval x = .pointer (some ⟨b, 1, none⟩)) (hA : At w b n R)
    (h : wpList Tryd.prog ops Q rest (a.put o.dst (.agg (rowsOf R))) w) : wpList Tryd.prog ops Q (o :: rest) a w :=
  wpList_plain hgd fun _ hK => by
    unfold Oper.wp execOp
    simp only [ho, hx, Instr.loadAt, Instr.sureAddr, Sem.run_bind, Sem.run_pure, Result.andThen_ok, run_loadVar_rows hA]
    exact hK _ _ h
theorem run_index_rows (R : Nat → Nat) (k : Nat) (h : k < 40) (w : World) : (Instr.index 45 (.agg (rowsOf R)) (.int .i64 (k : Int))).run Tryd.prog w = .ok (.int .u64 (R k)) w := by
  have hu : Tryd.prog.underlying 45 = some (.array 40 43) := by kernel_rfl
  have hr := rowsOf_get R k h
  have hge : ¬ 40 ≤ k := by omega
  simp [Instr.index, asIntOf, run_underlying hu, Sem.run_bind, hge, part, hr]
end RelA

set_option maxRecDepth 20000 in
set_option maxHeartbeats 800000 in
theorem then_ge (b n c m : Nat) (R S : Nat → Nat) (w : World) (hb : At w b n R) (hc : At w c m S) (hR : ∀ i, R i < 2 ^ 40) (hS : ∀ i, S i < 2 ^ 40) (htab : Tab w) :
    Calls Tryd.prog 21 #[.pointer (some ⟨b, 0, none⟩), .pointer (some ⟨c, 0, none⟩)] w fun e w' => e = .returned (.pointer (some ⟨w.heap.size, 0, none⟩)) ∧ At w' w.heap.size (max n m) (fun i => U S (R i)) ∧ Below w.heap.size w w' := by
  have hb0 := hb.c0
  have hc0 := hc.c0
  have HR := Lib.hid hR
  have HS := Lib.hid hS
  have HB := Lib.hid hb
  have HC := Lib.hid hc
  have HTAB := Lib.hid htab
  clear hR hS hb hc htab
  by_cases hnm : m ≤ n
  all_goals
    go_enter Tryd.func21, Tryd.ntmps21
    go_wp2_with fail
    go_region
    go_wp2_with ((with_reducible refine wpList_load_rows rfl _ rfl b n R rfl (HB.out.below (((Below.refl _ _).alloc (Nat.le_refl _) _).drew) HB.out.lt) ?_))
    go_loopw [23] (fun i wr => ∃ k : Nat, k ≤ 40 ∧ i = .int .i64 k ∧ At wr w.heap.size (max n m) (fun j => if j < k then U S (R j) else 0) ∧ Below w.heap.size w wr) (fun i _ => 40 - (intOf i).toNat)
    case atStart =>
      refine ⟨0, Nat.zero_le _, rfl, ?_, ((Below.refl _ _).alloc (Nat.le_refl _) _).drew⟩
      exact (zero_at' w (max n m) _ (by omega)).drew
    case round =>
      obtain ⟨k, hk, rfl, hat, hbe⟩ := hrel
      by_cases hlt : k < 40
      · obtain ⟨wo, rfl⟩ : ∃ wo : World, wo = wr := ⟨_, rfl⟩
        have hix := run_index_rows R k hlt
        have hdk : decide ((k : Int) < 40) = true := by simp; omega
        have HAT := Lib.hid hat
        clear hat
        go_wp2_with fail
        go_loopw [7] (fun x wi => ∃ y acc : Nat, y < 2 ^ 40 ∧ acc < 2 ^ 40 ∧ x = .int .u64 y ∧ Hid (acc ||| U S y = U S (R k)) ∧ At wi w.heap.size (max n m) (upd (fun j => if j < k then U S (R j) else 0) k acc) ∧ Below w.heap.size w wi) (fun x _ => (intOf x).toNat)
        case atStart =>
          refine ⟨R k, 0, HR.out k, by decide, rfl, ?_, ?_, hbe⟩
          · show 0 ||| U S (R k) = U S (R k)
            rw [Nat.zero_or]
          · refine HAT.out.congr fun j _ => ?_
            unfold upd
            by_cases e : j = k
            · subst e; simp
            · simp [e]
        case round =>
          obtain ⟨y, acc, hy, hacc, rfl, hU, hati, hbi⟩ := hrel
          have hzlt := ctz_lt40 y
          by_cases hy0 : y = 0
          · subst hy0
            have HATI := Lib.hid hati
            clear hati hzlt
            go_wp2_with fail
            go_roundw
            case rel =>
              refine ⟨k + 1, by omega, by go_num, ?_, hbi⟩
              refine HATI.out.congr fun j _ => ?_
              have hU2 := hU.out
              rw [U_zero, Nat.or_zero] at hU2
              unfold upd
              by_cases e : j = k
              · subst e; rw [if_pos rfl, if_pos (by omega), hU2]
              · rw [if_neg e]
                show (if j < k then U S (R j) else 0) = _
                by_cases e2 : j < k
                · rw [if_pos e2, if_pos (by omega)]
                · rw [if_neg e2, if_neg (by omega)]
            case measure => simp [intOf]; omega
          · have hyb : ((y : Int) != 0) = true := by simpa using hy0
            have hy1 : 1 ≤ y := by omega
            have hz := hzlt hy0 hy
            have HTZ := Lib.hid (tz_any y wr.drew (fun k hk => (hbi.cell (p := ⟨0, k, none⟩) (by show 0 < _; exact Nat.lt_of_le_of_lt (Nat.zero_le _) HB.out.lt)).trans (HTAB.out k hk)) hy0 (lt64 hy))
            have hc1 := (HC.out.below hbi HC.out.lt).ci (Lib.ctz 64 y) hz
            have hfz := hati.frozen (1 + k)
            have hd : wr.cell? ⟨w.heap.size, 1 + k, none⟩ = some (.int .u64 acc) := by
              have := hati.ci k hlt
              unfold upd at this
              rwa [if_pos rfl] at this
            have HATI := Lib.hid hati
            have HY0 := Lib.hid hy0
            clear hati hzlt hy0
            have hand : bits .and .u64 (y : Int) ((y : Int) - 1) = ((y &&& (y - 1) : Nat) : Int) := by
              have := bits_and_u64_nat y (y - 1) (lt64 hy) (by omega)
              rwa [Int.ofNat_sub hy1] at this
            have hor : bits .or .u64 (acc : Int) (S (Lib.ctz 64 y) : Int) = ((acc ||| S (Lib.ctz 64 y) : Nat) : Int) := bits_or_u64_nat _ _ (lt64 hacc) (lt64 (HS.out _))
            have HST := Lib.hid (U_step S y HS.out HY0.out hy)
            generalize Lib.ctz 64 y = z at *
            have hzi : (z : Int) < 40 := by omega
            have hki : (k : Int) < 40 := by omega
            go_wp2_with fail
            refine wp_region_still_tail 17 (by kernel_rfl) (by kernel_rfl) ?_
            simp only [List.take_succ_cons, List.take_zero, List.drop_succ_cons, List.drop_zero]
            show wpStill _ _ wr.drew (fun a' => wpList _ _ _ _ a' wr.drew) _ _
            repeat still_step
            still_call (HTZ.out.mono fun e w' h => ⟨h.1, h.2.symm⟩)
            repeat still_step
            refine wpStill_nil ?_
            go_wp2_with fail
            go_roundw
            case rel =>
              refine ⟨y &&& (y - 1), acc ||| S z, ?_, ?_, rfl, ?_, ?_, ?_⟩
              · exact Nat.lt_of_lt_of_le (clear_lt y HY0.out) (by omega)
              · exact Nat.or_lt_two_pow hacc (HS.out _)
              · show _ = _
                rw [← hU.out, HST.out, Nat.or_assoc]
              · refine ((HATI.out.set k (acc ||| S z)).drew).congr fun j _ => ?_
                unfold upd
                by_cases e : j = k
                · subst e; simp
                · simp [e]
              · exact (hbi.setCell (Nat.le_refl _) _).drew
            case measure =>
              have := clear_lt y HY0.out
              simp [intOf]; omega
      · have hk40 : 40 ≤ k := by omega
        have HAT := Lib.hid hat
        clear hat
        go_wp2_with fail
        go_ret
        exact ⟨rfl, HAT.out.congr fun i hi => by rw [if_pos (by omega)], hbe⟩
end Go.Proofs.YtgpkdhbegkhjjaaDoor
namespace Go.Proofs.YtgpkdhbegkhjjaaDoor
open Go.RowKit RelA

namespace RelA
/-- each pair turned -/
def backR (R : Nat → Nat) : Nat → Nat := fun j => bitsOf (fun i => (R i).testBit j) 40
/-- the same, of the rows ahead of k, and of k's row x without what is left of it -/
def BK (R : Nat → Nat) (k x y : Nat) : Nat → Nat := fun j => bitsOf (fun i => (decide (i < k) && (R i).testBit j) || (decide (i = k) && (x.testBit j && !y.testBit j))) 40
theorem BK_lt (R : Nat → Nat) (k x y j : Nat) : BK R k x y j < 2 ^ 40 := bitsOf_lt _ _
theorem BK_bit (R : Nat → Nat) (k x y j i : Nat) : (BK R k x y j).testBit i = (decide (i < 40) && ((decide (i < k) && (R i).testBit j) || (decide (i = k) && (x.testBit j && !y.testBit j)))) := testBit_bitsOf _ _ _
theorem BK_zero (R : Nat → Nat) (j : Nat) : BK R 0 0 0 j = 0 := by
  apply Nat.eq_of_testBit_eq; intro i; rw [BK_bit]; simp
theorem BK_start (R : Nat → Nat) (k j : Nat) : BK R k 0 0 j = BK R k (R k) (R k) j := by
  apply Nat.eq_of_testBit_eq; intro i; rw [BK_bit, BK_bit]; cases (R k).testBit j <;> simp
theorem BK_end (R : Nat → Nat) (k j : Nat) : BK R k (R k) 0 j = BK R (k + 1) 0 0 j := by
  apply Nat.eq_of_testBit_eq; intro i; rw [BK_bit, BK_bit]
  by_cases e : i = k
  · subst e; simp
  · by_cases h : i < k
    · have : i < k + 1 := by omega
      simp [h, this, e]
    · have : ¬ i < k + 1 := by omega
      simp [h, this, e]
theorem BK_full (R : Nat → Nat) (k : Nat) (hk : 40 ≤ k) (j : Nat) : BK R k 0 0 j = backR R j := by
  apply Nat.eq_of_testBit_eq; intro i; rw [BK_bit]; unfold backR; rw [testBit_bitsOf]
  by_cases h : i < 40
  · have : i < k := by omega
    simp [h, this]
  · simp [h]
theorem BK_step (R : Nat → Nat) (k x y : Nat) (hk : k < 40) (h0 : ¬ y = 0) (hy : y < 2 ^ 40) (hU : ∀ j, y.testBit j = true → x.testBit j = true) (j : Nat) :
    BK R k x (y &&& (y - 1)) j = upd (BK R k x y) (Lib.ctz 64 y) (BK R k x y (Lib.ctz 64 y) ||| 2 ^ k) j := by
  have hb := ctz_bits y h0 (by omega)
  apply Nat.eq_of_testBit_eq
  intro i
  unfold upd
  rw [BK_bit, (hb j).1]
  by_cases e : j = Lib.ctz 64 y
  · rw [if_pos e, Nat.testBit_or, BK_bit, Nat.testBit_two_pow]
    have hx := hU _ (hb 0).2
    rw [e, hx]
    by_cases ei : i = k
    · subst ei; simp [hk]
    · have : ¬ k = i := fun h => ei h.symm
      simp [ei, this]
  · rw [if_neg e, BK_bit]
    simp [e]
end RelA

end Go.Proofs.YtgpkdhbegkhjjaaDoor
namespace Go.Proofs.YtgpkdhbegkhjjaaDoor
open Go.RowKit RelA

namespace RelA
/-- the rows that stand at block b, whatever they are -/
def rowsW (w : World) (b : Nat) : Array Value := match w.heap[b]? with | some (.cells cs _ _) => cs.extract 1 41 | _ => #[]
/-- a relation's object stands at block b -/
def RelIs (w : World) (b : Nat) : Prop := ∃ n R, At w b n R
theorem At.is {w : World} {b n : Nat} {R : Nat → Nat} (h : At w b n R) : RelIs w b := ⟨n, R, h⟩
theorem At.rows {w : World} {b n : Nat} {R : Nat → Nat} (h : At w b n R) : rowsW w b = rowsOf R := by
  unfold rowsW
  rw [h]
  show (cells n R).extract 1 41 = rowsOf R
  unfold cells rowsOf
  apply Array.ext'
  rw [Array.toList_extract]
  show List.take 40 (List.map (fun i => Value.int IntKind.u64 (R i : Int)) (List.range 40)) = _
  rw [List.take_of_length_le (by simp)]
theorem run_loadAt_rows (w : World) (b : Nat) (h : RelIs w b) : (Instr.loadAt 45 (.pointer (some ⟨b, 1, none⟩))).run Tryd.prog w = .ok (.agg (rowsW w b)) w := by
  obtain ⟨n, R, h⟩ := h
  rw [h.rows]
  simp only [Instr.loadAt, Instr.sureAddr, Sem.run_bind, Sem.run_pure, Result.andThen_ok, run_loadVar_rows h]
/-- the loading of the rows, under a name that the walk does not open -/
def loadRows (v : Value) : Sem Next := execOp (fun _ => v) { dst := none, op := .load 45 (.tmp 0), type := 45, pos := "", after := #[], guard := none }
theorem execOp_load_rows (a : Act) (dst : Option Tmp) (x : Operand) (ty : TypeId) (pos : String) (after : Array Edge) (guard : Option (Nat × Bool)) :
    execOp a.eval { dst, op := .load 45 x, type := ty, pos, after, guard } = loadRows (a.eval x) := rfl
theorem run_loadRows (w : World) (b : Nat) (h : RelIs w b) : (loadRows (.pointer (some ⟨b, 1, none⟩))).run Tryd.prog w = .ok (.value (.agg (rowsW w b))) w := by
  show ((Instr.loadAt 45 (.pointer (some ⟨b, 1, none⟩))) >>= fun v => pure (Next.value v)).run Tryd.prog w = _
  rw [Sem.run_bind, run_loadAt_rows w b h]
  rfl
/-- are two arrays of rows the same? -/
def IsRows (xs : Array Value) : Prop := ∃ R, xs = rowsOf R
theorem At.isRows {w : World} {b n : Nat} {R : Nat → Nat} (h : At w b n R) : IsRows (rowsW w b) := ⟨R, h.rows⟩
def numOf : Value → Int | .int _ n => n | _ => 0
def rowsEq (xs ys : Array Value) : Bool := (List.range 40).all fun i => numOf (xs.getD i undef) == numOf (ys.getD i undef)
def eqIdx (d : Nat) (elem : TypeId) (n : Nat) (xs ys : Array Value) : List Nat → Sem Bool
  | [] => pure true
  | i :: is => do
    let a ← part elem xs (i * n)
    let b ← part elem ys (i * n)
    let r ← Op.equalIn d elem a b
    if (!r) = true then pure false else eqIdx d elem n xs ys is
theorem parts_at (R S : Nat → Nat) (w : World) (d i : Nat) (hi : i < 40) : (part 43 (rowsOf R) (i * 1)).run Tryd.prog w = .ok (.int .u64 (R i)) w ∧
    (part 43 (rowsOf S) (i * 1)).run Tryd.prog w = .ok (.int .u64 (S i)) w ∧ (Op.equalIn (d + 1) 43 (.int .u64 (R i)) (.int .u64 (S i))).run Tryd.prog w = .ok ((R i : Int) == (S i : Int)) w := by
  have hu : Tryd.prog.underlying 43 = some (.int .u64) := by kernel_rfl
  refine ⟨?_, ?_, run_equalIn_int (P := Tryd.prog) w d 43 .u64 .u64 (R i) (S i) hu⟩
  · have := rowsOf_get R i hi
    simp [part, this]
  · have := rowsOf_get S i hi
    simp [part, this]
theorem run_eqIdx (R S : Nat → Nat) (w : World) (d : Nat) : ∀ l : List Nat, (∀ i ∈ l, i < 40) → (eqIdx (d + 1) 43 1 (rowsOf R) (rowsOf S) l).run Tryd.prog w = .ok (l.all fun i => numOf ((rowsOf R).getD i undef) == numOf ((rowsOf S).getD i undef)) w := by
  intro l
  induction l with
  | nil => intro _; rfl
  | cons i l ih =>
    intro h
    have hi : i < 40 := h i (by simp)
    have hx : (rowsOf R).getD i undef = .int .u64 (R i) := by rw [Array.getD_eq_getD_getElem?, rowsOf_get R i hi]; rfl
    have hy : (rowsOf S).getD i undef = .int .u64 (S i) := by rw [Array.getD_eq_getD_getElem?, rowsOf_get S i hi]; rfl
    obtain ⟨px, py, he⟩ := parts_at R S w d i hi
    rw [List.all_cons, hx, hy]
    simp only [eqIdx, Sem.run_bind, px, py, he, Result.andThen_ok, numOf]
    cases ((R i : Int) == (S i : Int))
    · rfl
    · simp only [Bool.not_true, Bool.false_eq_true, if_false, Bool.true_and]
      exact ih fun j hj => h j (by simp [hj])
theorem run_equalIn_rows' (d : Nat) (R S : Nat → Nat) (w : World) : (Op.equalIn (d + 2) 45 (.agg (rowsOf R)) (.agg (rowsOf S))).run Tryd.prog w = .ok (rowsEq (rowsOf R) (rowsOf S)) w := by
  have hu : Tryd.prog.underlying 45 = some (.array 40 43) := by kernel_rfl
  have hz : (sizeOf 43).run Tryd.prog w = .ok 1 w := by kernel_rfl
  have key := run_eqIdx R S w d (List.range 40) (fun i hi => List.mem_range.1 hi)
  rw [Op.equalIn]
  simp only [Sem.run_bind, run_underlying hu, Result.andThen_ok, hz]
  rw [Std.Legacy.Range.forIn_eq_forIn_range']
  have hr : List.range' 0 40 1 = List.range 40 := rfl
  show ((Sem.run Tryd.prog (forIn (List.range' 0 40 1) _ _) w).andThen _) = _
  rw [hr]
  refine Eq.trans ?_ key
  have hall : ∀ i ∈ List.range 40, i < 40 := fun i hi => List.mem_range.1 hi
  generalize List.range 40 = l at hall
  clear key
  induction l with
  | nil => rfl
  | cons i l ih =>
    obtain ⟨px, py, he⟩ := parts_at R S w d i (hall i (by simp))
    simp only [List.forIn_cons, eqIdx, Sem.run_bind, px, py, he, Result.andThen_ok]
    cases ((R i : Int) == (S i : Int))
    · rfl
    · simp only [Bool.not_true, Bool.false_eq_true, if_false, Sem.run_pure, Result.andThen_ok]
      exact ih fun j hj => hall j (by simp [hj])
theorem run_equalIn_rows (xs ys : Array Value) (w : World) (hx : IsRows xs) (hy : IsRows ys) : (Op.equalIn 10000 45 (.agg xs) (.agg ys)).run Tryd.prog w = .ok (rowsEq xs ys) w := by
  obtain ⟨R, rfl⟩ := hx
  obtain ⟨S, rfl⟩ := hy
  exact run_equalIn_rows' 9998 R S w
end RelA
end Go.Proofs.YtgpkdhbegkhjjaaDoor
namespace Go.Proofs.YtgpkdhbegkhjjaaDoor
open Go.RowKit RelA
namespace RelA
def sameB (R S : Nat → Nat) : Bool := (List.range 40).all fun i => R i == S i
theorem sameB_iff (R S : Nat → Nat) : sameB R S = true ↔ ∀ i, i < 40 → R i = S i := by
  unfold sameB; simp
theorem rowsEq_of (R S : Nat → Nat) : rowsEq (rowsOf R) (rowsOf S) = sameB R S := by
  unfold rowsEq
  rw [Bool.eq_iff_iff, sameB_iff, List.all_eq_true]
  constructor
  · intro h i hi
    have := h i (List.mem_range.2 hi)
    rw [Array.getD_eq_getD_getElem?, rowsOf_get R i hi, Array.getD_eq_getD_getElem?, rowsOf_get S i hi] at this
    have h2 := eq_of_beq this
    exact Int.ofNat.inj h2
  · intro h i hi
    have hi := List.mem_range.1 hi
    rw [Array.getD_eq_getD_getElem?, rowsOf_get R i hi, Array.getD_eq_getD_getElem?, rowsOf_get S i hi, h i hi]
    simp
def inR (R S : Nat → Nat) : Bool := sameB (fun i => R i ||| S i) S
end RelA
section
attribute [local go_sem ↓] Go.wp_at_zero Go.wp_at_succ RelA.execOp_load_rows
attribute [local go_sem] RelA.run_loadRows RelA.run_equalIn_rows
set_option maxRecDepth 20000 in
set_option maxHeartbeats 800000 in
theorem in_any (b n c m : Nat) (R S : Nat → Nat) (w : World) (hb : At w b n R) (hc : At w c m S) (hR : ∀ i, R i < 2 ^ 40) (hS : ∀ i, S i < 2 ^ 40) :
    Calls Tryd.prog 10 #[.pointer (some ⟨b, 0, none⟩), .pointer (some ⟨c, 0, none⟩)] w fun e w' => e = .returned (.bool (inR R S)) ∧ Below w.heap.size w w' := by
  have H := Lib.hid (or_any b n c m R S w.drew hb hc hR hS)
  have hi1 : RelIs w.drew c := hc.is
  have hr1 : IsRows (rowsW w.drew c) := hc.isRows
  clear hR hS
  have HB := Lib.hid hb
  have HC := Lib.hid hc
  clear hb hc
  go_enter Tryd.func10, Tryd.ntmps10
  go_wp2_with fail
  go_region_with ((go_at_call 20; refine H.out.mono ?_; rintro e w1 ⟨rfl, hat, hbe⟩; have hi2 : RelIs w1 w.heap.size := hat.is; have hr2 : IsRows (rowsW w1 w.heap.size) := hat.isRows; have hi3 : RelIs w1 c := (HC.out.drew.below hbe HC.out.lt).is; have hr3 : IsRows (rowsW w1 c) := (HC.out.drew.below hbe HC.out.lt).isRows))
  all_goals go_wp2_with fail
  all_goals go_ret
  all_goals
    have e1 : rowsW w1 w.heap.size = rowsOf _ := hat.rows
    have e2 : rowsW w1 c = rowsOf S := (HC.out.drew.below hbe HC.out.lt).rows
    have e3 : rowsW w.drew c = rowsOf S := HC.out.drew.rows
  all_goals refine ⟨?_, ⟨hbe.os, hbe.tape, hbe.output, hbe.size, hbe.block⟩⟩
  all_goals
    unfold inR
    rw [← rowsEq_of]
    first
      | (rw [← e1, ← e2]; rfl)
      | (rw [← e1, ← e3]; rfl)
end
end Go.Proofs.YtgpkdhbegkhjjaaDoor
