import Derived.Test.YtepkjnpbdjmlbaaDoorLines
namespace Go.Proofs.YtepkjnpbdjmlbaaDoor
open Go.RowKit RelA
namespace RelA
/-- the cells of the other relation's object: its size, then cell by cell -/
def rcells (n : Nat) (M : Nat → Nat → Bool) : Array Value := (Value.int .i64 n :: (List.range 1600).map fun k => Value.bool (M (k / 40) (k % 40))).toArray
def RAt (w : World) (b n : Nat) (M : Nat → Nat → Bool) : Prop := w.heap[b]? = some (.cells (rcells n M) 57 (0, 0))
theorem RAt.c0 {w : World} {b n : Nat} {M : Nat → Nat → Bool} (h : RAt w b n M) : w.cell? ⟨b, 0, none⟩ = some (.int .i64 n) := by
  rw [cell_of_row w b 0 _ _ _ h]; rfl
theorem rcells_get (n : Nat) (M : Nat → Nat → Bool) (i j : Nat) (hi : i < 40) (hj : j < 40) : (rcells n M)[1 + i * 40 + j]? = some (.bool (M i j)) := by
  have e : 1 + i * 40 + j = (i * 40 + j) + 1 := by omega
  have h1 : i * 40 + j < 1600 := by omega
  have h2 : (i * 40 + j) / 40 = i := by omega
  have h3 : (i * 40 + j) % 40 = j := by omega
  rw [e]
  unfold rcells
  simp [h1, h2, h3]
theorem RAt.ci {w : World} {b n : Nat} {M : Nat → Nat → Bool} (h : RAt w b n M) (i j : Nat) (hi : i < 40) (hj : j < 40) : w.cell? ⟨b, 1 + i * 40 + j, none⟩ = some (.bool (M i j)) := by
  rw [cell_of_row w b _ _ _ _ h]; exact rcells_get n M i j hi hj
theorem RAt.lt {w : World} {b n : Nat} {M : Nat → Nat → Bool} (h : RAt w b n M) : b < w.heap.size := block_lt_of_cell h.c0
theorem RAt.below {w w' : World} {B b n : Nat} {M : Nat → Nat → Bool} (h : RAt w b n M) (hB : Below B w w') (hb : b < B) : RAt w' b n M := by
  unfold RAt; rw [hB.block b hb]; exact h
theorem RAt.next {w w' : World} {b n : Nat} {M : Nat → Nat → Bool} (h : RAt w b n M) (hb : Below w.heap.size w w') : RAt w' b n M := h.below hb h.lt
theorem RAt.drew {w : World} {b n : Nat} {M : Nat → Nat → Bool} (h : RAt w b n M) : RAt w.drew b n M := h
theorem RAt.alloc {w : World} {b n : Nat} {M : Nat → Nat → Bool} (h : RAt w b n M) (o : Obj) : RAt (w.alloc o) b n M :=
  h.below ((Below.refl w.heap.size w).alloc (Nat.le_refl _) o) h.lt
theorem RAt.frozen {w : World} {b n : Nat} {M : Nat → Nat → Bool} (h : RAt w b n M) (j : Nat) : w.frozen? ⟨b, j, none⟩ = false := frozen_of_row w b j _ _ h
def updM (M : Nat → Nat → Bool) (i j : Nat) (x : Bool) : Nat → Nat → Bool := fun a b => if a = i ∧ b = j then x else M a b
theorem RAt.congr {w : World} {b n : Nat} {M S : Nat → Nat → Bool} (h : RAt w b n M) (e : ∀ i j, i < 40 → j < 40 → M i j = S i j) : RAt w b n S := by
  have h1 : (List.range 1600).map (fun k => Value.bool (M (k / 40) (k % 40))) = (List.range 1600).map (fun k => Value.bool (S (k / 40) (k % 40))) :=
    List.map_congr_left fun k hk => by
      have := List.mem_range.1 hk
      rw [e (k / 40) (k % 40) (by omega) (by omega)]
  have : rcells n M = rcells n S := by
    unfold rcells; rw [h1]
  unfold RAt; rw [← this]; exact h
theorem set_cons (v x : Value) (l : List Value) (k : Nat) : (v :: l).toArray.setIfInBounds (k + 1) x = (v :: l.set k x).toArray := by
  apply Array.ext'
  rw [Array.toList_setIfInBounds]
  rfl
theorem rcells_set (n : Nat) (M : Nat → Nat → Bool) (i j : Nat) (x : Bool) (hi : i < 40) (hj : j < 40) : (rcells n M).setIfInBounds (1 + i * 40 + j) (.bool x) = rcells n (updM M i j x) := by
  have e : 1 + i * 40 + j = (i * 40 + j) + 1 := by omega
  rw [e]
  unfold rcells
  rw [set_cons]
  have key : ((List.range 1600).map fun k => Value.bool (M (k / 40) (k % 40))).set (i * 40 + j) (.bool x) = (List.range 1600).map fun k => Value.bool (updM M i j x (k / 40) (k % 40)) := by
    apply List.ext_getElem?
    intro k
    rw [List.getElem?_set]
    by_cases ek : i * 40 + j = k
    · subst ek
      have h1 : i * 40 + j < 1600 := by omega
      have h2 : (i * 40 + j) / 40 = i := by omega
      have h3 : (i * 40 + j) % 40 = j := by omega
      simp [h1, updM, h2, h3]
    · rw [if_neg ek]
      by_cases hk : k < 1600
      · have : ¬ (k / 40 = i ∧ k % 40 = j) := by omega
        simp [hk, updM, this]
      · simp [hk]
  rw [key]
theorem RAt.set {w : World} {b n : Nat} {M : Nat → Nat → Bool} (h : RAt w b n M) (i j : Nat) (x : Bool) (hi : i < 40) (hj : j < 40) : RAt (w.setCell ⟨b, 1 + i * 40 + j, none⟩ (.bool x)) b n (updM M i j x) := by
  unfold RAt
  rw [heap_setCell_same w b (1 + i * 40 + j) (rcells n M) 57 _ h, rcells_set n M i j x hi hj]
/-- the making of an empty one, under a name that the walk does not open -/
def buildRef (x : Value) : Sem Next := do pure (.value (← Instr.build 57 #[(0, x)]))
theorem execOp_build_ref (a : Act) (dst : Option Tmp) (x : Operand) (ty : TypeId) (pos : String) (after : Array Edge) (guard : Option (Nat × Bool)) :
    execOp a.eval { dst, op := .build 57 #[(0, x)], type := ty, pos, after, guard } = buildRef (a.eval x) := by
  simp [execOp, buildRef]
def refV (n : Int) : Array Value := (Value.int .i64 n :: (List.range 1600).map fun _ => Value.bool false).toArray
theorem refV_nat (n : Nat) : refV n = rcells n (fun _ _ => false) := rfl
theorem run_buildRef (n : Int) (w : World) : (buildRef (.int .i64 n)).run Tryd.prog w = .ok (.value (.agg (refV n))) w := by
  unfold buildRef
  rw [Sem.run_bind]
  have : (Instr.build 57 #[(0, .int .i64 n)]).run Tryd.prog w = .ok (.agg (refV n)) w := by kernel_rfl
  rw [this]; rfl
def rstep (n : Nat) (M : Nat → Nat → Bool) (p : Int × Int) : Nat → Nat → Bool := if inB n p.1 && inB n p.2 then updM M p.1.toNat p.2.toNat true else M
def rnewM (n : Nat) (l : List (Int × Int)) : Nat → Nat → Bool := l.foldl (rstep n) (fun _ _ => false)
theorem rnewM_take (n : Nat) (l : List (Int × Int)) (k : Nat) (h : k < l.length) : rnewM n (l.take (k + 1)) = rstep n (rnewM n (l.take k)) (l.getD k (0, 0)) := by
  unfold rnewM
  rw [List.take_succ_eq_append_getElem h, List.foldl_append]
  simp [h]
theorem five (N : Nat) (a b : Int) : (0 ≤ a ∧ 0 ≤ b ∧ a < N ∧ b < N ∧ (inB N a && inB N b) = true) ∨ (a < 0 ∧ (inB N a && inB N b) = false) ∨ (0 ≤ a ∧ b < 0 ∧ (inB N a && inB N b) = false) ∨ (0 ≤ a ∧ 0 ≤ b ∧ (N : Int) ≤ a ∧ (inB N a && inB N b) = false) ∨ (0 ≤ a ∧ 0 ≤ b ∧ a < N ∧ (N : Int) ≤ b ∧ (inB N a && inB N b) = false) := by
  unfold inB
  by_cases h1 : 0 ≤ a
  · by_cases h2 : 0 ≤ b
    · by_cases h3 : a < N
      · by_cases h4 : b < N
        · left; simp [h1, h2, h3, h4]
        · right; right; right; right; simp [h1, h2, h3, h4]; omega
      · right; right; right; left; simp [h1, h2, h3]; omega
    · right; right; left; simp [h1, h2]; omega
  · right; left; simp [h1]; omega
end RelA
section
attribute [local go_sem ↓ high] RelA.execOp_max RelA.execOp_min
attribute [local go_sem ↓] RelA.execOp_build_ref
attribute [local go_sem] RelA.run_maxOp RelA.run_minOp RelA.run_buildRef
set_option maxHeartbeats 1600000 in
theorem rnew_some (n : Int) (lb lo : Nat) (l : List (Int × Int)) (cap : Nat) (w : World) (hm : l.length ≤ maxLen) (hlb : lb < w.heap.size) (hc : ∀ i, i < l.length →
    w.cell? ⟨lb, lo + i * 2, none⟩ = some (.int .i64 (l.getD i (0, 0)).1) ∧ w.cell? ⟨lb, lo + i * 2 + 1, none⟩ = some (.int .i64 (l.getD i (0, 0)).2)) :
    Calls Tryd.prog 9 #[.int .i64 n, .slice (some ⟨lb, lo, none⟩) l.length cap] w fun e w' => e = .returned (.pointer (some ⟨w.heap.size, 0, none⟩)) ∧ RAt w' w.heap.size (clampN n) (rnewM (clampN n) l) ∧ Below w.heap.size w w' := by
  unfold maxLen at hm
  have HC := Lib.hid hc
  clear hc
  have hcn := clamp_eq n
  have hN := clampN_le n
  generalize clampN n = N at *
  go_enter Tryd.func9, Tryd.ntmps9
  go_wp2_with fail
  go_loopw [6] (fun i wr => ∃ k : Nat, k ≤ l.length ∧ i = .int .i64 k ∧ RAt wr w.heap.size N (rnewM N (l.take k)) ∧ Below w.heap.size w wr) (fun i _ => l.length - (intOf i).toNat)
  case atStart => exact ⟨0, Nat.zero_le _, rfl, heap_alloc_new _ _, (Below.refl _ _).alloc (Nat.le_refl _) _⟩
  case round =>
    obtain ⟨k, hk, rfl, hat, hbe⟩ := hrel
    by_cases hlt : k < l.length
    · have hcc := HC.out k hlt
      have hc1 := (hbe.cell (p := ⟨lb, lo + k * 2, none⟩) hlb).trans hcc.1
      have hc2 := (hbe.cell (p := ⟨lb, lo + k * 2 + 1, none⟩) hlb).trans hcc.2
      have HT := Lib.hid (rnewM_take N l k hlt)
      have hki : (k : Int) < (l.length : Int) := by omega
      have hkd : decide ((k : Int) < (l.length : Int)) = true := by simp; omega
      clear hcc
      generalize rnewM N (l.take k) = M at *
      generalize l.getD k (0, 0) = p at *
      obtain ⟨pa, pb⟩ := p
      simp only at hc1 hc2
      have hr0 := hat.c0
      rcases five N pa pb with ⟨g1, g2, g3, g4, g5⟩ | ⟨g1, g5⟩ | ⟨g1, g2, g5⟩ | ⟨g1, g2, g3, g5⟩ | ⟨g1, g2, g3, g4, g5⟩
      · obtain ⟨i, rfl⟩ := Int.eq_ofNat_of_zero_le g1
        obtain ⟨j, rfl⟩ := Int.eq_ofNat_of_zero_le g2
        have hi : i < N := by omega
        have hj : j < N := by omega
        have hd := hat.ci i j (by omega) (by omega)
        have hfz := hat.frozen (1 + i * 40 + j)
        have HAT := Lib.hid hat
        have G5 := Lib.hid g5
        clear hat g5
        go_wp2_with fail
        go_region
        go_wp2_with fail
        go_roundw
        case rel =>
          refine ⟨k + 1, by omega, by go_num, ?_, (hbe.drew).setCell (Nat.le_refl _) _⟩
          rw [HT.out]; unfold rstep; rw [G5.out]
          exact HAT.out.drew.set i j true (by omega) (by omega)
        case measure => simp [intOf]; omega
      all_goals
        have HAT := Lib.hid hat
        have G5 := Lib.hid g5
        clear hat g5
        go_wp2_with fail
        go_region
        go_wp2_with fail
        go_roundw
        case rel =>
          refine ⟨k + 1, by omega, by go_num, ?_, hbe.drew⟩
          rw [HT.out]; unfold rstep; rw [G5.out]
          exact HAT.out.drew
        case measure => simp [intOf]; omega
    · have he : k = l.length := by omega
      have HE := Lib.hid he
      have hkd : decide ((k : Int) < (l.length : Int)) = false := by simp; omega
      clear he
      have HAT := Lib.hid hat
      clear hat
      go_wp2_with fail
      go_ret
      refine ⟨rfl, ?_, hbe⟩
      have := HAT.out
      rw [HE.out, List.take_length] at this
      exact this
set_option maxHeartbeats 800000 in
theorem rnew_nil (n : Int) (w : World) :
    Calls Tryd.prog 9 #[.int .i64 n, .slice none 0 0] w fun e w' => e = .returned (.pointer (some ⟨w.heap.size, 0, none⟩)) ∧ RAt w' w.heap.size (clampN n) (fun _ _ => false) ∧ Below w.heap.size w w' := by
  have hcn := clamp_eq n
  generalize clampN n = N at *
  go_enter Tryd.func9, Tryd.ntmps9
  go_wp2_with fail
  go_loopw [6] (fun i wr => i = .int .i64 0 ∧ RAt wr w.heap.size N (fun _ _ => false) ∧ Below w.heap.size w wr) (fun i _ => 0)
  case atStart => exact ⟨rfl, heap_alloc_new _ _, (Below.refl _ _).alloc (Nat.le_refl _) _⟩
  case round =>
    obtain ⟨rfl, hat, hbe⟩ := hrel
    have HAT := Lib.hid hat
    clear hat
    go_wp2_with fail
    go_ret
    exact ⟨rfl, HAT.out, hbe⟩
end
end Go.Proofs.YtepkjnpbdjmlbaaDoor
