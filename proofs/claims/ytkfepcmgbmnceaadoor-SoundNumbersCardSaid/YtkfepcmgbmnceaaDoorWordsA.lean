import Derived.Test.YtkfepcmgbmnceaaDoorRows
import Derived.WalkKit
import Derived.WalkSpells
import Derived.WalkLawsBesides
import Derived.Lib.Hide
import Derived.Laws.Rows
import Derived.Deep.QuietTactic
import Derived.BigQuiet
namespace Go.Proofs.YtkfepcmgbmnceaaDoor
open Go.RowKit

namespace ExprA
/-- words that stand somewhere: kind and number -/
def TIn (w : World) (a : Option Addr) (L : List (Int × Int)) : Prop :=
  L = [] ∨ ∃ b o, a = some ⟨b, o, none⟩ ∧ b < w.heap.size ∧ ∀ i, i < L.length →
    w.cell? ⟨b, o + i * 2, none⟩ = some (.int .i64 (L.getD i (0, 0)).1) ∧ w.cell? ⟨b, o + i * 2 + 1, none⟩ = some (.int .i64 (L.getD i (0, 0)).2)
theorem TIn.next {w w' : World} {a : Option Addr} {L : List (Int × Int)} (h : TIn w a L) (hb : Below w.heap.size w w') : TIn w' a L := by
  rcases h with h | ⟨b, o, h1, h2, h3⟩
  · exact .inl h
  · exact .inr ⟨b, o, h1, Nat.lt_of_lt_of_le h2 hb.size, fun i hi => ⟨(hb.cell (p := ⟨b, o + i * 2, none⟩) h2).trans (h3 i hi).1, (hb.cell (p := ⟨b, o + i * 2 + 1, none⟩) h2).trans (h3 i hi).2⟩⟩
/-- a word that may be: how many values lie then -/
def okTok (p : Int × Int) (n : Nat) : Option Nat :=
  if p.1 = 1 ∧ -2147483648 ≤ p.2 ∧ p.2 ≤ 2147483647 then some (n + 1)
  else if p.1 = 2 ∧ 0 ≤ p.2 ∧ p.2 < 8 then some (n + 1)
  else if p.1 = 3 ∧ 1 ≤ p.2 ∧ p.2 ≤ 6 ∧ 2 ≤ n then some (n - 1) else none
def chkTo (L : List (Int × Int)) : Nat → Option Nat
  | 0 => some 0
  | k + 1 => (chkTo L k).bind (okTok (L.getD k (0, 0)))
def checkB (L : List (Int × Int)) : Bool := decide (L.length ≤ 9) && (chkTo L L.length == some 1)
theorem chkTo_none {L : List (Int × Int)} {k : Nat} (h : chkTo L k = none) (j : Nat) : chkTo L (k + j) = none := by
  induction j with
  | zero => exact h
  | succ j ih => show (chkTo L (k + j)).bind _ = none; rw [ih]; rfl
theorem chkTo_le {L : List (Int × Int)} {k P : Nat} (h : chkTo L k = some P) : P ≤ k := by
  induction k generalizing P with
  | zero => simp [chkTo] at h; omega
  | succ k ih =>
    simp only [chkTo, Option.bind_eq_some_iff] at h
    obtain ⟨Q, hQ, h⟩ := h
    have := ih hQ
    unfold okTok at h
    split at h
    · simp at h; omega
    · split at h
      · simp at h; omega
      · split at h
        · simp at h; omega
        · simp at h
theorem checkB_bad {L : List (Int × Int)} {k P : Nat} (hk : k < L.length) (h : chkTo L k = some P) (hb : okTok (L.getD k (0, 0)) P = none) : checkB L = false := by
  have h1 : chkTo L (k + 1) = none := by show (chkTo L k).bind _ = none; rw [h]; exact hb
  have h2 := chkTo_none h1 (L.length - (k + 1))
  rw [show k + 1 + (L.length - (k + 1)) = L.length by omega] at h2
  simp [checkB, h2]
theorem chk_step {L : List (Int × Int)} {k P Q : Nat} (h : chkTo L k = some P) (hb : okTok (L.getD k (0, 0)) P = some Q) : chkTo L (k + 1) = some Q := by
  show (chkTo L k).bind _ = _; rw [h]; exact hb
end ExprA
open ExprA

set_option maxHeartbeats 4000000 in
theorem check_any (a : Option Addr) (L : List (Int × Int)) (c : Nat) (w : World) (h : TIn w a L) :
    Calls Tryd.prog 22 #[.slice a L.length c] w fun e w' => e = .returned (.bool (checkB L)) ∧ Below w.heap.size w w' := by
  have HI := Lib.hid h
  clear h
  by_cases hlen : 9 < L.length
  · have hd : decide ((9 : Int) < (L.length : Int)) = true := by simp; omega
    have hr : checkB L = false := by simp [checkB]; omega
    rw [hr]
    go_enter Tryd.func22, Tryd.ntmps22
    go_wp2_with fail
    go_ret
    exact ⟨rfl, Below.refl _ _⟩
  · have hd : decide ((9 : Int) < (L.length : Int)) = false := by simp; omega
    go_enter Tryd.func22, Tryd.ntmps22
    go_wp2_with fail
    go_loopw [3, 11] (fun p i wr => ∃ k P : Nat, k ≤ L.length ∧ p = .int .i64 P ∧ i = .int .i64 k ∧ chkTo L k = some P ∧ Below w.heap.size w wr) (fun _ i _ => L.length - (intOf i).toNat)
    case atStart => exact ⟨0, 0, Nat.zero_le _, rfl, rfl, rfl, Below.refl _ _⟩
    case round =>
      obtain ⟨k, P, hk, rfl, rfl, hck, hbe⟩ := hrel
      have hP := chkTo_le hck
      have hPi : (P : Int) ≤ 9 := by omega
      have hPi0 : (0 : Int) ≤ (P : Int) := by omega
      have hki9 : (k : Int) ≤ 9 := by omega
      by_cases hlt : k < L.length
      · have hdk : decide ((k : Int) < (L.length : Int)) = true := by simp; omega
        have hki : (k : Int) < (L.length : Int) := by omega
        rcases HI.out.next hbe with h0 | ⟨b, o, rfl, hbl, hcc⟩
        · rw [h0] at hlt; simp at hlt
        · have hc1 := (hcc k hlt).1
          have hc2 := (hcc k hlt).2
          have HS := Lib.hid (fun Q => @chk_step L k P Q hck)
          have HX := Lib.hid (@checkB_bad L k P hlt hck)
          clear hcc
          generalize L.getD k (0, 0) = pp at *
          obtain ⟨tk, tv⟩ := pp
          simp only at hc1 hc2
          go_wp2_with fail
          all_goals first
            | (go_ret
               refine ⟨?_, hbe.alloc hbe.size _⟩
               rw [HX.out (by unfold okTok; dsimp only; rw [if_neg (by omega), if_neg (by omega), if_neg (by omega)])]
               rfl)
            | (go_roundw
               case rel =>
                 first
                 | exact ⟨k + 1, P + 1, hlt, by go_num, by go_num, HS.out _ (by unfold okTok; dsimp only; first | rw [if_pos (by omega)] | rw [if_neg (by omega), if_pos (by omega)]), hbe.alloc hbe.size _⟩
                 | exact ⟨k + 1, P - 1, hlt, by congr 1; omega, by go_num, HS.out _ (by unfold okTok; dsimp only; rw [if_neg (by omega), if_neg (by omega), if_pos (by omega)]), hbe.alloc hbe.size _⟩
               case measure => simp [intOf]; omega)
      · have hdk : decide ((k : Int) < (L.length : Int)) = false := by simp; omega
        have e : k = L.length := by omega
        subst e
        have hr : checkB L = decide (P = 1) := by
          have h9 : L.length ≤ 9 := by omega
          by_cases h1 : P = 1
          · simp [checkB, hck, h9, h1]
          · simp [checkB, hck, h9, h1]
        go_wp2_with fail
        go_ret
        refine ⟨?_, hbe⟩
        have e : decide (P = 1) = decide ((P : Int) = 1) := by
          by_cases h1 : P = 1
          · subst h1; rfl
          · have h2 : ¬ (P : Int) = 1 := by omega
            simp [h1, h2]
        rw [hr, e]
        rfl
end Go.Proofs.YtkfepcmgbmnceaaDoor
