/-
  The law MemOrder over what its parts do: it returns true whatever the lists. Conditions: the lists in memory, slices.SortFunc's contract, awake() true.
-/
import Derived.Test.YthahhibenejgfaaMemD
namespace Go.Proofs.Ythahhibenejgfaa
open Go.RowKit Mem
namespace Mem
def Few (C : List Ls) : Prop := C.length ≤ 60 ∧ ∀ q, q < C.length → (C.getD q Ls.zero).L.length ≤ 20
/-- a truth value that says no more than that lists are few -/
def FewSays (C : List Ls) (w : World) (e : Ending) (w' : World) : Prop := ∃ x, e = .returned (.bool x) ∧ (x = true → Few C) ∧ w = w'
theorem fewSays {C : List Ls} {w : World} (x : Bool) (h : x = true → Few C) : FewSays C w (.returned (.bool x)) w := ⟨x, rfl, h, rfl⟩
end Mem
set_option maxRecDepth 20000 in
set_option maxHeartbeats 3200000 in
theorem few_l (a : Option Addr) (C : List Ls) (c : Nat) (w : World) (hin : LsIn w a C) (hcl : C.length ≤ maxLen) (hll : ∀ q, q < C.length → (C.getD q Ls.zero).L.length ≤ maxLen) :
    Calls Try.prog 6 #[.slice a C.length c] w (FewSays C w) := by
  have HI := Lib.hid hin
  have HLL := Lib.hid hll
  clear hin hll
  go_enter Try.func6, Try.ntmps6
  go_wp2_with fail
  go_loop [3] (fun x => ∃ k : Nat, k ≤ C.length ∧ k ≤ 60 ∧ x = .int .i64 k ∧ Hid (∀ q, q < k → (C.getD q Ls.zero).L.length ≤ 20)) (fun x => 60 - (intOf x).toNat)
  case atStart => exact ⟨0, Nat.zero_le _, by omega, rfl, Lib.hid (fun q hq => absurd hq (by omega))⟩
  case round =>
    obtain ⟨k, hk, hk6, rfl, HQ⟩ := hrel
    have hmx : C.length ≤ maxLen := hcl
    unfold maxLen at hmx
    by_cases h1 : k < C.length
    · have d1 : decide ((k : Int) < (C.length : Int)) = true := by simp; omega
      have i1 : (k : Int) < (C.length : Int) := by omega
      by_cases h2 : k < 60
      · have d2 : decide ((k : Int) < 60) = true := by simp; omega
        rcases HI.out with h0 | ⟨b, o, rfl, hb, hc⟩
        · rw [h0] at h1; simp at h1
        have c0 := (hc k h1).1
        have hl0 := HLL.out k h1
        unfold maxLen at hl0
        have HQ1 : Hid ((C.getD k Ls.zero).L.length ≤ 20 → ∀ q, q < k + 1 → (C.getD q Ls.zero).L.length ≤ 20) := Lib.hid (fun h q hq => by
          by_cases e : q = k
          · rw [e]; exact h
          · exact HQ.out q (by omega))
        clear hc
        generalize C.getD k Ls.zero = m at *
        obtain ⟨ma, mL, mc⟩ := m
        unfold Ls.v at c0
        dsimp only at c0 hl0 HQ1
        by_cases h3 : mL.length ≤ 20
        · have d3 : decide ((mL.length : Int) > 20) = false := by simp; omega
          have HQ2 := Lib.hid (HQ1.out h3)
          clear HQ1 HQ
          go_wp2_with fail
          go_round
          case rel => exact ⟨k + 1, by omega, by omega, by go_num, HQ2⟩
          case measure => simp [intOf]; omega
        · have d3 : decide ((mL.length : Int) > 20) = true := by simp; omega
          clear HQ1 HQ
          go_wp2_with fail
          go_ret
          exact fewSays false (fun h => by cases h)
      · have d2 : decide ((k : Int) < 60) = false := by simp; omega
        have d4 : decide ((C.length : Int) ≤ 60) = false := by simp; omega
        clear HQ
        go_wp2_with fail
        go_ret
        exact fewSays false (fun h => by cases h)
    · have hkC : k = C.length := by omega
      have d1 : decide ((k : Int) < (C.length : Int)) = false := by simp; omega
      have d4 : decide ((C.length : Int) ≤ 60) = true := by simp; omega
      have HF : Hid (Few C) := Lib.hid ⟨by omega, fun q hq => HQ.out q (by omega)⟩
      clear HQ
      go_wp2_with fail
      go_ret
      exact fewSays true (fun _ => HF.out)
end Go.Proofs.Ythahhibenejgfaa
