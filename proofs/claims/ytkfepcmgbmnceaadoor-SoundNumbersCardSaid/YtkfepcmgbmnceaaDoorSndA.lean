import Derived.Test.YtkfepcmgbmnceaaDoorWordsN
import Derived.Laws.ResultCell
import Derived.Deep.WholeRow
namespace Go.Proofs.YtkfepcmgbmnceaaDoor
open Go.RowKit ExprA
namespace SndA
/-- what an instruction of a kind has -/
structure KR where
  modes : Nat
  modes2 : Nat
  reg : Bool
  loc : Bool
  number : Bool
  words : Nat
  without : Bool
  events : Nat
def kr (k : Int) : KR :=
  if k = 1 then ⟨3, 1, true, true, false, 0, false, 1⟩
  else if k = 2 then ⟨5, 1, false, true, false, 9, false, 1⟩
  else if k = 3 then ⟨30, 1, false, false, false, 0, false, 1⟩
  else if k = 4 then ⟨3, 5, true, true, false, 7, true, 2⟩
  else if k = 5 then ⟨1, 1, true, false, false, 9, false, 0⟩
  else if k = 6 then ⟨1, 1, false, false, true, 9, false, 0⟩
  else ⟨0, 0, false, false, false, 0, false, 0⟩
def krL (κ : KR) : List Value := [.int .i64 (κ.modes : Int), .int .i64 (κ.modes2 : Int), .bool κ.reg, .bool κ.loc, .bool κ.number, .int .i64 (κ.words : Int), .bool κ.without, .int .i64 (κ.events : Int)]
def kindsL : List Value := (List.range 7).flatMap fun (k : Nat) => krL (kr (k : Int))
/-- the table of kinds lies in its variable -/
def KTab (w : World) : Prop := 1 ≤ w.heap.size ∧ ∀ j, j < 56 → w.cell? ⟨0, j, none⟩ = kindsL[j]?
theorem KTab.next {w w' : World} (h : KTab w) (hb : Below w.heap.size w w') : KTab w' :=
  ⟨Nat.le_trans h.1 hb.size, fun j hj => (hb.cell (p := ⟨0, j, none⟩) (by show 0 < _; exact h.1)).trans (h.2 j hj)⟩
def amongB (m : Int) (ms : Nat) : Bool := decide (0 ≤ m ∧ m ≤ 4) && ((ms >>> m.toNat) % 2 == 1)
def upToB (v : Int) (has : Bool) (most : Int) : Bool := if has then decide (0 ≤ v ∧ v ≤ most) else decide (v = 0)
end SndA
open SndA
set_option maxRecDepth 100000 in
set_option maxHeartbeats 1600000 in
theorem upTo_any (v most : Int) (has : Bool) (w : World) : Calls Tryd.prog 18 #[.int .i64 v, .bool has, .int .i64 most] w fun e w' => e = .returned (.bool (upToB v has most)) ∧ w = w' := by
  cases has with
  | false =>
    go_enter Tryd.func18, Tryd.ntmps18
    go_wp2_with fail
    go_ret
    refine ⟨?_, rfl⟩
    show _ = Ending.returned (Value.bool (decide (v = 0)))
    rfl
  | true =>
    by_cases h0 : (0 : Int) ≤ v
    · by_cases h1 : v ≤ most
      · have hr : upToB v true most = true := by simp [upToB, h0, h1]
        have hd0 : decide ((0 : Int) ≤ v) = true := by simp [h0]
        have hd1 : decide (v ≤ most) = true := by simp [h1]
        rw [hr]
        go_enter Tryd.func18, Tryd.ntmps18
        go_wp2_with fail
        go_ret
        exact ⟨rfl, rfl⟩
      · have hr : upToB v true most = false := by simp [upToB, h1]
        have hd0 : decide ((0 : Int) ≤ v) = true := by simp [h0]
        have hd1 : decide (v ≤ most) = false := by simp; omega
        rw [hr]
        go_enter Tryd.func18, Tryd.ntmps18
        go_wp2_with fail
        go_ret
        exact ⟨rfl, rfl⟩
    · have hr : upToB v true most = false := by simp [upToB, h0]
      have hd0 : decide ((0 : Int) ≤ v) = false := by simp; omega
      rw [hr]
      go_enter Tryd.func18, Tryd.ntmps18
      go_wp2_with fail
      go_ret
      exact ⟨rfl, rfl⟩
set_option maxRecDepth 100000 in
set_option maxHeartbeats 4000000 in
theorem among_any (m : Int) (ms : Nat) (hms : ms = 0 ∨ ms = 1 ∨ ms = 3 ∨ ms = 5 ∨ ms = 30) (w : World) : Calls Tryd.prog 17 #[.int .i64 m, .int .i64 (ms : Int)] w fun e w' => e = .returned (.bool (amongB m ms)) ∧ w = w' := by
  by_cases h0 : (0 : Int) ≤ m
  · by_cases h4 : m ≤ 4
    · rcases (show m = 0 ∨ m = 1 ∨ m = 2 ∨ m = 3 ∨ m = 4 by omega) with rfl | rfl | rfl | rfl | rfl <;> rcases hms with rfl | rfl | rfl | rfl | rfl
      all_goals
        go_enter Tryd.func17, Tryd.ntmps17
        go_wp2_with fail
        go_ret
        exact ⟨by first | rfl | decide, rfl⟩
    · have hr : amongB m ms = false := by simp [amongB, h4]
      have hd0 : decide ((0 : Int) ≤ m) = true := by simp [h0]
      have hd1 : decide (m ≤ 4) = false := by simp; omega
      rw [hr]
      generalize (ms : Int) = z
      clear hms hr
      go_enter Tryd.func17, Tryd.ntmps17
      go_wp2_with fail
      go_ret
      exact ⟨rfl, rfl⟩
  · have hr : amongB m ms = false := by simp [amongB, h0]
    have hd0 : decide ((0 : Int) ≤ m) = false := by simp; omega
    rw [hr]
    generalize (ms : Int) = z
    clear hms hr
    go_enter Tryd.func17, Tryd.ntmps17
    go_wp2_with fail
    go_ret
    exact ⟨rfl, rfl⟩
end Go.Proofs.YtkfepcmgbmnceaaDoor
