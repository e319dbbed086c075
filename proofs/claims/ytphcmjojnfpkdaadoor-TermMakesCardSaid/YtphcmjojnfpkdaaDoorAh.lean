/-
  What a piece of a term's text becomes when it is a number or a read: its text is written in its place. Conditions: the piece's row lies in memory, the table of powers of ten in its variable.
-/
import Derived.Test.YtphcmjojnfpkdaaDoorShelf
import Derived.WalkKit
import Derived.Maps.AppendAt
import Derived.Deep.Quiet
import Derived.BigQuiet
import Derived.Lib.ItoaLen
namespace Go.Proofs.YtphcmjojnfpkdaaDoor.ah
open Go.RowKit Go.Lib
/-- the digits of a number do not begin as a read's name does -/
theorem dec_head : ∀ (f n : Nat), n ≤ f → ∃ c r, Lib.decDigits n = c :: r ∧ c < 105
  | f, n, h => by
    rw [Lib.decDigits]
    split
    · rename_i h1
      refine ⟨_, _, rfl, ?_⟩
      have : n = 0 ∨ n = 1 ∨ n = 2 ∨ n = 3 ∨ n = 4 ∨ n = 5 ∨ n = 6 ∨ n = 7 ∨ n = 8 ∨ n = 9 := by omega
      rcases this with rfl | rfl | rfl | rfl | rfl | rfl | rfl | rfl | rfl | rfl <;> decide
    · rename_i h1
      cases f with
      | zero => omega
      | succ f =>
        obtain ⟨c, r, h2, h3⟩ := dec_head f (n / 10) (by omega)
        rw [h2]
        exact ⟨c, _, rfl, h3⟩
theorem itoa_head (n : Int) : ∃ c r, Lib.itoa n = c :: r ∧ c < 105 := by
  unfold Lib.itoa
  split
  · exact ⟨_, _, rfl, by decide⟩
  · exact dec_head _ _ (Nat.le_refl _)
theorem alloc_cell {w : World} {B : Nat} {C : Array Value} {t : TypeId} {fr : Nat × Nat} (h : w.heap[B]? = some (.cells C t fr)) {X : Obj} (j : Nat) : (w.alloc X).cell? ⟨B, j, none⟩ = C[j]? := by
  have h1 := (Below.heap_alloc w X B (Array.getElem?_eq_some_iff.1 h).1).trans h
  simp only [World.cell?, h1]
  simp
theorem alloc_frz {w : World} {B : Nat} {C : Array Value} {t : TypeId} (h : w.heap[B]? = some (.cells C t (0, 0))) {X : Obj} (j : Nat) : (w.alloc X).frozen? ⟨B, j, none⟩ = false := by
  have h1 := (Below.heap_alloc w X B (Array.getElem?_eq_some_iff.1 h).1).trans h
  simp [World.frozen?, h1]
theorem grown {w w1 : World} {k : Nat} {os : Array Obj} (h : w1 = Go.«Sort».grow (w.drewN k) os) : w1.os = w.os ∧ w1.tape = w.tape ∧ w1.output = w.output ∧ w.heap.size ≤ w1.heap.size ∧ ∀ j, j < w.heap.size → w1.heap[j]? = w.heap[j]? := by
  subst h
  have hd : (w.drewN k).heap = w.heap := rfl
  refine ⟨rfl, rfl, rfl, ?_, fun j hj => ?_⟩
  · show w.heap.size ≤ (w.heap ++ os).size
    rw [Array.size_append]; omega
  · show (w.heap ++ os)[j]? = _
    rw [Array.getElem?_append_left hj]
theorem two_set {w : World} {B : Nat} {x0 x1 y0 y1 : Value} {t : TypeId} (h : w.heap[B]? = some (.cells #[x0, x1] t (0, 0))) : ((w.setCell ⟨B, 0, none⟩ y0).setCell ⟨B, 1, none⟩ y1).heap[B]? = some (.cells #[y0, y1] t (0, 0)) ∧ (∀ k, k ≠ B → ((w.setCell ⟨B, 0, none⟩ y0).setCell ⟨B, 1, none⟩ y1).heap[k]? = w.heap[k]?) ∧
    ((w.setCell ⟨B, 0, none⟩ y0).setCell ⟨B, 1, none⟩ y1).heap.size = w.heap.size := by
  refine ⟨?_, fun k hk => ?_, ?_⟩
  · simp [World.setCell, Array.getElem?_modify, h]
  · simp [World.setCell, Array.getElem?_modify, Ne.symm hk]
  · simp [World.setCell]
set_option maxRecDepth 100000 in
set_option maxHeartbeats 16000000 in
theorem open_num (B A O : Nat) (x0 x1 : Value) (C : Array Value) (t el : TypeId) (fr : Nat × Nat) (v : Int) (w : World) (hB : w.heap[B]? = some (.cells #[x0, x1] t (0, 0))) (hA : w.heap[A]? = some (.cells C el fr)) (hk : C[O]? = some (.int .i64 1)) (hv : C[O + 1]? = some (.int .i64 v))
    (h0 : -9223372036854775808 ≤ v) (h1 : v ≤ 9223372036854775807) (htab : Lib.TabIs Tryd.prog w "internal/strconv.uint64pow10" .u64 Lib.pow10Tab) :
    Calls Tryd.prog 23 #[.slice (some ⟨B, 0, none⟩) 0 1, .pointer (some ⟨A, O, none⟩)] w fun e w' => e = .returned (.slice (some ⟨B, 0, none⟩) 1 1) ∧ w'.heap[B]? = some (.cells #[.pointer none, .string ⟨(Lib.itoa v).toArray⟩] t (0, 0)) ∧ w.heap.size ≤ w'.heap.size ∧ (∀ k, k < w.heap.size → k ≠ B → w'.heap[k]? = w.heap[k]?) ∧ w'.os = w.os ∧ w'.tape = w.tape ∧ w'.output = w.output := by
  have c0 : w.cell? ⟨A, O, none⟩ = some (.int .i64 1) := by simp only [World.cell?, hA]; simpa using hk
  have c1 : w.cell? ⟨A, O + 1, none⟩ = some (.int .i64 v) := by simp only [World.cell?, hA]; simpa using hv
  go_enter Tryd.func23, Tryd.ntmps23
  go_wp2_with (go_at_call 32; refine (Tryd.strconv_Itoa v h0 h1 _ htab).mono ?_; rintro e w1 ⟨rfl, k, os, hw1⟩; have hh := grown hw1; have hB1 := (hh.2.2.2.2 B (Array.getElem?_eq_some_iff.1 hB).1).trans hB; clear hw1; have e0 := alloc_cell hB1 (X := .cells #[.pointer none, .string ⟨(Lib.itoa v).toArray⟩] 53) 0; have e1 := alloc_cell hB1 (X := .cells #[.pointer none, .string ⟨(Lib.itoa v).toArray⟩] 53) 1; have e2 := alloc_frz hB1 (X := .cells #[.pointer none, .string ⟨(Lib.itoa v).toArray⟩] 53) 0; have e3 := alloc_frz hB1 (X := .cells #[.pointer none, .string ⟨(Lib.itoa v).toArray⟩] 53) 1; simp at e0 e1)
  go_ret
  have hB2 := (Below.heap_alloc w1 (.cells #[.pointer none, .string ⟨(Lib.itoa v).toArray⟩] 53) B (Array.getElem?_eq_some_iff.1 hB1).1).trans hB1
  obtain ⟨s1, s2, s3⟩ := two_set (y0 := .pointer none) (y1 := .string ⟨(Lib.itoa v).toArray⟩) hB2
  refine ⟨rfl, s1, ?_, fun k hk hkB => ?_, hh.1, hh.2.1, hh.2.2.1⟩
  · rw [s3]; have := hh.2.2.2.1; simp; omega
  · rw [s2 k hkB, Below.heap_alloc _ _ _ (Nat.lt_of_lt_of_le hk hh.2.2.2.1), hh.2.2.2.2 k hk]
set_option maxRecDepth 100000 in
set_option maxHeartbeats 16000000 in
theorem open_read (B A O : Nat) (x0 x1 : Value) (C : Array Value) (t el : TypeId) (fr : Nat × Nat) (v : Int) (w : World) (hB : w.heap[B]? = some (.cells #[x0, x1] t (0, 0))) (hA : w.heap[A]? = some (.cells C el fr)) (hk : C[O]? = some (.int .i64 2)) (hv : C[O + 1]? = some (.int .i64 v))
    (h0 : -9223372036854775808 ≤ v) (h1 : v ≤ 9223372036854775807) (htab : Lib.TabIs Tryd.prog w "internal/strconv.uint64pow10" .u64 Lib.pow10Tab) :
    Calls Tryd.prog 23 #[.slice (some ⟨B, 0, none⟩) 0 1, .pointer (some ⟨A, O, none⟩)] w fun e w' => e = .returned (.slice (some ⟨B, 0, none⟩) 1 1) ∧ w'.heap[B]? = some (.cells #[.pointer none, .string ⟨(105 :: Lib.itoa v).toArray⟩] t (0, 0)) ∧ w.heap.size ≤ w'.heap.size ∧ (∀ k, k < w.heap.size → k ≠ B → w'.heap[k]? = w.heap[k]?) ∧ w'.os = w.os ∧ w'.tape = w.tape ∧ w'.output = w.output := by
  have c0 : w.cell? ⟨A, O, none⟩ = some (.int .i64 2) := by simp only [World.cell?, hA]; simpa using hk
  have c1 : w.cell? ⟨A, O + 1, none⟩ = some (.int .i64 v) := by simp only [World.cell?, hA]; simpa using hv
  have hL : ¬ 9223372036854775807 < 1 + (Lib.itoa v).length := by have := Lib.itoa_length_le v h0 h1; omega
  have hS : (⟨#[105]⟩ : ByteArray) ++ ⟨(Lib.itoa v).toArray⟩ = ⟨(105 :: Lib.itoa v).toArray⟩ := by
    apply ByteArray.ext
    rw [ByteArray.data_append]
    simp
  go_enter Tryd.func23, Tryd.ntmps23
  go_wp2_with (go_at_call 32; refine (Tryd.strconv_Itoa v h0 h1 _ htab).mono ?_; rintro e w1 ⟨rfl, k, os, hw1⟩; have hh := grown hw1; have hB1 := (hh.2.2.2.2 B (Array.getElem?_eq_some_iff.1 hB).1).trans hB; clear hw1; have e0 := alloc_cell hB1 (X := .cells #[.pointer none, .string ⟨(105 :: Lib.itoa v).toArray⟩] 53) 0; have e1 := alloc_cell hB1 (X := .cells #[.pointer none, .string ⟨(105 :: Lib.itoa v).toArray⟩] 53) 1; have e2 := alloc_frz hB1 (X := .cells #[.pointer none, .string ⟨(105 :: Lib.itoa v).toArray⟩] 53) 0; have e3 := alloc_frz hB1 (X := .cells #[.pointer none, .string ⟨(105 :: Lib.itoa v).toArray⟩] 53) 1; simp at e0 e1)
  go_ret
  have hB2 := (Below.heap_alloc w1 (.cells #[.pointer none, .string ⟨(105 :: Lib.itoa v).toArray⟩] 53) B (Array.getElem?_eq_some_iff.1 hB1).1).trans hB1
  obtain ⟨s1, s2, s3⟩ := two_set (y0 := .pointer none) (y1 := .string ⟨(105 :: Lib.itoa v).toArray⟩) hB2
  refine ⟨rfl, s1, ?_, fun k hk hkB => ?_, hh.1, hh.2.1, hh.2.2.1⟩
  · rw [s3]; have := hh.2.2.2.1; simp; omega
  · rw [s2 k hkB, Below.heap_alloc _ _ _ (Nat.lt_of_lt_of_le hk hh.2.2.2.1), hh.2.2.2.2 k hk]
end Go.Proofs.YtphcmjojnfpkdaaDoor.ah
