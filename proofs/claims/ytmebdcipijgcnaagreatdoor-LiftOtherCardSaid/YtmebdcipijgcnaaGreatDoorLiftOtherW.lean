/-
  The law LiftOther at all of its cases. Conditions: none but those that the theorems print.
-/
import Derived.Test.YtmebdcipijgcnaaGreatDoorLiftOtherN0
import Derived.Test.YtmebdcipijgcnaaGreatDoorLiftOtherN1
import Derived.Test.YtmebdcipijgcnaaGreatDoorLiftOtherN2
import Derived.Test.YtmebdcipijgcnaaGreatDoorLiftOtherN3
import Derived.Test.YtmebdcipijgcnaaGreatDoorLiftOtherN4
import Derived.Test.YtmebdcipijgcnaaGreatDoorLiftOtherN5
import Derived.Test.YtmebdcipijgcnaaGreatDoorLiftOtherN6
import Derived.Test.YtmebdcipijgcnaaGreatDoorLiftOtherN7
import Derived.Test.YtmebdcipijgcnaaGreatDoorLiftOtherN8
import Derived.Test.YtmebdcipijgcnaaGreatDoorLiftOtherN9
import Derived.Test.YtmebdcipijgcnaaGreatDoorLiftOtherE0
import Derived.Test.YtmebdcipijgcnaaGreatDoorLiftOtherE1
import Derived.Test.YtmebdcipijgcnaaGreatDoorLiftOtherE2
import Derived.Test.YtmebdcipijgcnaaGreatDoorLiftOtherE3
import Derived.Test.YtmebdcipijgcnaaGreatDoorLiftOtherE4
import Derived.Test.YtmebdcipijgcnaaGreatDoorLiftOtherE5
import Derived.Test.YtmebdcipijgcnaaGreatDoorLiftOtherE6
import Derived.Test.YtmebdcipijgcnaaGreatDoorLiftOtherE7
import Derived.Test.YtmebdcipijgcnaaGreatDoorLiftOtherE8
import Derived.Test.YtmebdcipijgcnaaGreatDoorLiftOtherE9
import Derived.WalkKit
import Derived.ProofKit
namespace Go.Proofs.YtmebdcipijgcnaaGreatDoor.liftOtherq
open Go.Rn Go.RowKit YtmebdcipijgcnaaGreatDoor.txt
theorem nz : ∀ a, a < 10 → ∀ b, b < 10 → ∀ c, c < 10 → run (100 * a + 10 * b + c) = .yes
  | 0, _ => na0
  | 1, _ => na1
  | 2, _ => na2
  | 3, _ => na3
  | 4, _ => na4
  | 5, _ => na5
  | 6, _ => na6
  | 7, _ => na7
  | 8, _ => na8
  | 9, _ => na9
  | a + 10, h => absurd h (by omega)
theorem alln (k : Nat) (hk : k < 1000) : run k = .yes := by
  have h := nz (k / 100) (by omega) (k / 10 % 10) (by omega) (k % 10) (by omega)
  have e : 100 * (k / 100) + 10 * (k / 10 % 10) + k % 10 = k := by omega
  rw [e] at h
  exact h
theorem ez : ∀ a, a < 10 → ∀ b, b < 10 → ∀ c, c < 10 → runE (100 * a + 10 * b + c) = .yes
  | 0, _ => ea0
  | 1, _ => ea1
  | 2, _ => ea2
  | 3, _ => ea3
  | 4, _ => ea4
  | 5, _ => ea5
  | 6, _ => ea6
  | 7, _ => ea7
  | 8, _ => ea8
  | 9, _ => ea9
  | a + 10, h => absurd h (by omega)
theorem alle (k : Nat) (hk : k < 1000) : runE k = .yes := by
  have h := ez (k / 100) (by omega) (k / 10 % 10) (by omega) (k % 10) (by omega)
  have e : 100 * (k / 100) + 10 * (k / 10 % 10) + k % 10 = k := by omega
  rw [e] at h
  exact h
theorem walk (a0 : Int) (a1 : Int) (w : World) (hK : RowsAt rows w) :
    Calls Tryz.prog 3 #[.int .i64 a0, .int .i64 a1] w fun e w' => e = .returned (.bool true) ∧ Below w.heap.size w w' := by
  have hk0 : (a0 % 1000).toNat < 1000 := by omega
  have ek0 : ((a0 % 1000).toNat : Int) = a0 % 1000 := by omega
  generalize (a0 % 1000).toNat = k0 at hk0 ek0
  by_cases hxy : a1 % 1000 = a0 % 1000
  · have ho : OrcOk Tryz.prog (fun x => if x = 0 then a0 else if x = 1 then a1 else 0) (orcE k0) := or_ok (place_ok knownP (fun n k w h1 h2 => place_any n k w h1 h2) (fun e he h0 => by
      simp only [tabE, List.mem_cons, List.not_mem_nil, or_false] at he
      rcases he with rfl | rfl
      · exact ⟨by show 1000 ≤ 1000000; omega, by simpa using ek0.symm⟩
      · exact ⟨by show 1000 ≤ 1000000; omega, by simpa using hxy.trans ek0.symm⟩)) (told.told_ok)
    have hy : YsOk (fun x => if x = 0 then a0 else if x = 1 then a1 else 0) (ysR []) := ysR_ok (fun e he => by cases he)
    have := law_rows hy (inL_ok fsL_ok) ho kcOk globs rowsOk hK (alle k0 hk0) (vs := [.int .i64 a0, .int .i64 a1]) (fun _ => denC_cons.2 ⟨_, _, rfl, rfl, denC_cons.2 ⟨_, _, rfl, rfl, denC_nil.2 rfl⟩⟩)
    exact this.mono fun e w' h => ⟨h.1, h.2.below⟩
  · have ho : OrcOk Tryz.prog (fun x => if x = 0 then a0 else if x = 1 then a1 else if x = 51 then a1 % 1000 else 0) (orc k0) := or_ok (or_ok (place_ok knownP (fun n k w h1 h2 => place_any n k w h1 h2) (fun e he h0 => by
      simp only [tab, List.mem_cons, List.not_mem_nil, or_false] at he
      rcases he with rfl
      · exact ⟨by show 1000 ≤ 1000000; omega, by simpa using ek0.symm⟩)) (placeY_ok knownP (fun n k w h1 h2 => place_any n k w h1 h2) (fun e he h0 => by
      simp only [taby, List.mem_cons, List.not_mem_nil, or_false] at he
      rcases he with rfl
      · exact ⟨by show 1000 ≤ 1000000; omega, by simp⟩))) (told.told_ok)
    have hy : YsOk (fun x => if x = 0 then a0 else if x = 1 then a1 else if x = 51 then a1 % 1000 else 0) (ysO (ysR [(51, 0, 999)]) (ysE 51 k0)) := ysO_ok (ysR_ok (fun e he => by
      simp only [List.mem_cons, List.not_mem_nil, or_false] at he
      rcases he with rfl
      · have := Int.emod_nonneg a1 (show (1000 : Int) ≠ 0 by omega); have := Int.emod_lt_of_pos a1 (show (0 : Int) < 1000 by omega); exact ⟨by simp; omega, by simp; omega⟩)) (ysE_ok (by simp; omega))
    have := law_rows hy (inL_ok fsL_ok) ho kcOk globs rowsOk hK (alln k0 hk0) (vs := [.int .i64 a0, .int .i64 a1]) (fun _ => denC_cons.2 ⟨_, _, rfl, rfl, denC_cons.2 ⟨_, _, rfl, rfl, denC_nil.2 rfl⟩⟩)
    exact this.mono fun e w' h => ⟨h.1, h.2.below⟩
end Go.Proofs.YtmebdcipijgcnaaGreatDoor.liftOtherq
