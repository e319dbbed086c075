import Derived.Test.YtcmjmojbocmcgaaDoorB
import Derived.StillTailTactics
import Derived.Deep.RegionWith
namespace Go.Proofs.YtcmjmojbocmcgaaDoor
open Go.RowKit ExprA
namespace ExprA
def opF (v : Nat) (a b : Int) : Int :=
  match v with
  | 1 => wrap64 (a + b) | 2 => wrap64 (a - b) | 3 => wrap64 (a * b) | 4 => bits .xor .i64 a b | 5 => truthZ (decide (a = b)) | _ => truthZ (decide (a < b))
def upd (P : Nat → Int) (k : Nat) (v : Int) : Nat → Int := fun j => if j = k then v else P j
def evStep (R : List Int) (p : Int × Int) (s : (Nat → Int) × Nat) : (Nat → Int) × Nat :=
  if p.1 = 3 then (upd s.1 (s.2 - 2) (opF p.2.toNat (s.1 (s.2 - 2)) (s.1 (s.2 - 1))), s.2 - 1)
  else if p.1 = 1 then (upd s.1 s.2 p.2, s.2 + 1)
  else (upd s.1 s.2 (R.getD p.2.toNat 0), s.2 + 1)
def evTo (L : List (Int × Int)) (R : List Int) : Nat → (Nat → Int) × Nat
  | 0 => (fun _ => 0, 0)
  | k + 1 => evStep R (L.getD k (0, 0)) (evTo L R k)
def evalB (L : List (Int × Int)) (R : List Int) : Int := if checkB L then (evTo L R L.length).1 0 else 0
theorem ev_count {L : List (Int × Int)} {R : List Int} {k n : Nat} (h : chkTo L k = some n) : (evTo L R k).2 = n := by
  induction k generalizing n with
  | zero => simpa [chkTo, evTo] using h
  | succ k ih =>
    simp only [chkTo, Option.bind_eq_some_iff] at h
    obtain ⟨Q, hQ, h⟩ := h
    have e := ih hQ
    show (evStep R _ (evTo L R k)).2 = n
    unfold okTok at h
    unfold evStep
    rw [e]
    split at h
    · rename_i h1
      simp at h
      rw [if_neg (by omega), if_pos (by omega)]; omega
    · split at h
      · rename_i h1
        simp at h
        rw [if_neg (by omega), if_neg (by omega)]; exact h
      · split at h
        · rename_i h1
          simp at h
          rw [if_pos (by omega)]; exact h
        · simp at h
/-- numbers that stand somewhere -/
def NIn (w : World) (a : Option Addr) (R : List Int) : Prop :=
  R = [] ∨ ∃ b o, a = some ⟨b, o, none⟩ ∧ b < w.heap.size ∧ ∀ i, i < R.length → w.cell? ⟨b, o + i, none⟩ = some (.int .i64 (R.getD i 0))
theorem NIn.next {w w' : World} {a : Option Addr} {R : List Int} (h : NIn w a R) (hb : Below w.heap.size w w') : NIn w' a R := by
  rcases h with h | ⟨b, o, h1, h2, h3⟩
  · exact .inl h
  · exact .inr ⟨b, o, h1, Nat.lt_of_lt_of_le h2 hb.size, fun i hi => (hb.cell (p := ⟨b, o + i, none⟩) h2).trans (h3 i hi)⟩
def pcells (P : Nat → Int) : Array Value := ((List.range 9).map fun i => Value.int .i64 (P i)).toArray
def PAt (w : World) (b : Nat) (P : Nat → Int) : Prop := w.heap[b]? = some (.cells (pcells P) 49 (0, 0))
theorem pcells_get (P : Nat → Int) (i : Nat) (hi : i < 9) : (pcells P)[i]? = some (.int .i64 (P i)) := by unfold pcells; simp [hi]
theorem PAt.ci {w b P} (h : PAt w b P) (i : Nat) (hi : i < 9) : w.cell? ⟨b, i, none⟩ = some (.int .i64 (P i)) := by
  rw [cell_of_row w b _ _ _ _ h]; exact pcells_get P i hi
theorem PAt.lt {w b P} (h : PAt w b P) : b < w.heap.size := block_lt_of_cell (h.ci 0 (by decide))
theorem PAt.frozen {w b P} (h : PAt w b P) (j : Nat) : w.frozen? ⟨b, j, none⟩ = false := frozen_of_row w b j _ _ h
theorem pcells_set (P : Nat → Int) (i : Nat) (x : Int) : (pcells P).setIfInBounds i (.int .i64 x) = pcells (upd P i x) := by
  unfold pcells
  apply Array.ext'
  rw [Array.toList_setIfInBounds]
  apply List.ext_getElem (by simp)
  intro j h1 h2
  simp at h1
  rw [List.getElem_set]
  simp [upd, eq_comm]
  split <;> simp_all
theorem PAt.set {w b P} (h : PAt w b P) (i : Nat) (x : Int) : PAt (w.setCell ⟨b, i, none⟩ (.int .i64 x)) b (upd P i x) := by
  unfold PAt
  rw [heap_setCell_same w b i (pcells P) 49 _ h, pcells_set]
theorem PAt.below {w w' : World} {B b : Nat} {P : Nat → Int} (h : PAt w b P) (hB : Below B w w') (hb : b < B) : PAt w' b P := by
  unfold PAt; rw [hB.block b hb]; exact h
theorem PAt.alloc {w b P} (h : PAt w b P) (o : Obj) : PAt (w.alloc o) b P := h.below ((Below.refl w.heap.size w).alloc (Nat.le_refl _) o) h.lt
theorem PAt.drew {w b P} (h : PAt w b P) : PAt w.drew b P := h
theorem zero_pat (w : World) : PAt (w.alloc (.cells #[.int .i64 0, .int .i64 0, .int .i64 0, .int .i64 0, .int .i64 0, .int .i64 0, .int .i64 0, .int .i64 0, .int .i64 0] 49 (0, 0))) w.heap.size (fun _ => 0) := heap_alloc_new _ _
def OAt (w : World) (b : Nat) : Prop := w.heap[b]? = some (.cells opsA 52 (0, 0))
theorem OAt.lt {w b} (h : OAt w b) : b < w.heap.size := (Array.getElem?_eq_some_iff.1 h).1
theorem OAt.below {w w' : World} {B b : Nat} (h : OAt w b) (hB : Below B w w') (hb : b < B) : OAt w' b := by
  unfold OAt; rw [hB.block b hb]; exact h
theorem OAt.alloc {w b} (h : OAt w b) (o : Obj) : OAt (w.alloc o) b := h.below ((Below.refl w.heap.size w).alloc (Nat.le_refl _) o) h.lt
theorem OAt.set {w b p} (h : OAt w b) (hp : b ≠ p) (i : Nat) (x : Value) : OAt (w.setCell ⟨p, i, none⟩ x) b := by
  unfold OAt; rw [Below.heap_setCell w ⟨p, i, none⟩ x b hp]; exact h
/-- the function of an operation -/
def opId (v : Nat) : FuncId := match v with | 1 => 36 | 2 => 37 | 3 => 38 | 4 => 39 | 5 => 40 | _ => 42
theorem OAt.fn {w b} (h : OAt w b) (v : Nat) (h1 : 1 ≤ v) (h6 : v ≤ 6) : w.cell? ⟨b, v * 2 + 1, none⟩ = some (.func (.func (opId v)) #[] #[]) := by
  rw [cell_of_row w b _ _ _ _ h]
  rcases (show v = 1 ∨ v = 2 ∨ v = 3 ∨ v = 4 ∨ v = 5 ∨ v = 6 by omega) with rfl | rfl | rfl | rfl | rfl | rfl <;> rfl
end ExprA
theorem enter_op (v : Nat) (x y : Value) (w : World) (h1 : 1 ≤ v) (h6 : v ≤ 6) : Sem.run Tryd.prog (callFunc (opId v) #[x, y]) w = .ok (.enter (opId v) #[x, y]) w := by
  rcases (show v = 1 ∨ v = 2 ∨ v = 3 ∨ v = 4 ∨ v = 5 ∨ v = 6 by omega) with rfl | rfl | rfl | rfl | rfl | rfl <;> (unfold opId; go_simp)
theorem op_call (v : Nat) (a b : Int) (w : World) (h1 : 1 ≤ v) (h6 : v ≤ 6) : Calls Tryd.prog (opId v) #[.int .i64 a, .int .i64 b] w fun e w' => e = .returned (.int .i64 (opF v a b)) ∧ w' = w := by
  rcases (show v = 1 ∨ v = 2 ∨ v = 3 ∨ v = 4 ∨ v = 5 ∨ v = 6 by omega) with rfl | rfl | rfl | rfl | rfl | rfl
  · exact (op1_any w a b).mono fun _ _ ⟨h, g⟩ => ⟨h, g.symm⟩
  · exact (op2_any w a b).mono fun _ _ ⟨h, g⟩ => ⟨h, g.symm⟩
  · exact (op3_any w a b).mono fun _ _ ⟨h, g⟩ => ⟨h, g.symm⟩
  · exact (op4_any w a b).mono fun _ _ ⟨h, g⟩ => ⟨h, g.symm⟩
  · exact (op5_any w a b).mono fun _ _ ⟨h, g⟩ => ⟨h, g.symm⟩
  · exact (op6_any w a b).mono fun _ _ ⟨h, g⟩ => ⟨h, g.symm⟩
end Go.Proofs.YtcmjmojbocmcgaaDoor
