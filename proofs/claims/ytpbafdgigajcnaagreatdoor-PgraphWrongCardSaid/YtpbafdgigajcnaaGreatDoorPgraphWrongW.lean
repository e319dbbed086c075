/-
  The law PgraphWrong at all of its cases. Conditions: none but those that the theorems print.
-/
import Derived.Test.YtpbafdgigajcnaaGreatDoorPgraphWrongB
import Derived.Test.YtpbafdgigajcnaaGreatDoorPgraphWrongC
import Derived.WalkKit
import Derived.ProofKit
namespace Go.Proofs.YtpbafdgigajcnaaGreatDoor.pgraphWrongq
open Go.Rn Go.RowKit YtpbafdgigajcnaaGreatDoor.txt
theorem all_0 : ∀ k1, k1 < 1 → run 0 k1 = .yes
  | 0, _ => c0_0
  | k + 1, h => absurd h (by omega)
theorem all_1 : ∀ k1, k1 < 1 → run 1 k1 = .yes
  | 0, _ => c1_0
  | k + 1, h => absurd h (by omega)
theorem all_2 : ∀ k1, k1 < 2 → run 2 k1 = .yes
  | 0, _ => c2_0
  | 1, _ => c2_1
  | k + 2, h => absurd h (by omega)
theorem all_3 : ∀ k1, k1 < 3 → run 3 k1 = .yes
  | 0, _ => c3_0
  | 1, _ => c3_1
  | 2, _ => c3_2
  | k + 3, h => absurd h (by omega)
theorem all_4 : ∀ k1, k1 < 4 → run 4 k1 = .yes
  | 0, _ => c4_0
  | 1, _ => c4_1
  | 2, _ => c4_2
  | 3, _ => c4_3
  | k + 4, h => absurd h (by omega)
theorem all_5 : ∀ k1, k1 < 5 → run 5 k1 = .yes
  | 0, _ => c5_0
  | 1, _ => c5_1
  | 2, _ => c5_2
  | 3, _ => c5_3
  | 4, _ => c5_4
  | k + 5, h => absurd h (by omega)
theorem alls : ∀ k0, k0 < 6 → ∀ k1, k1 < k0-1+1 → run k0 k1 = .yes
  | 0, _ => all_0
  | 1, _ => all_1
  | 2, _ => all_2
  | 3, _ => all_3
  | 4, _ => all_4
  | 5, _ => all_5
  | k + 6, h => absurd h (by omega)
theorem walk (a0 : Int) (a1 : Int) (w : World) (hK : RowsAt rows w) :
    Calls Tryz.prog 4 #[.int .i64 a0, .int .i64 a1] w fun e w' => e = .returned (.bool true) ∧ Below w.heap.size w w' := by
  have hk0 : (a0 % 6).toNat < 6 := by omega
  have ek0 : ((a0 % 6).toNat : Int) = a0 % 6 := by omega
  generalize (a0 % 6).toNat = k0 at hk0 ek0
  have pk1 : (0 : Int) < ((k0-1+1 : Nat) : Int) := by omega
  have qk1 := Int.emod_lt_of_pos a1 pk1
  have rk1 := Int.emod_nonneg a1 (show ((k0-1+1 : Nat) : Int) ≠ 0 by omega)
  have hk1 : (a1 % ((k0-1+1 : Nat) : Int)).toNat < k0-1+1 := by omega
  have ek1 : ((a1 % ((k0-1+1 : Nat) : Int)).toNat : Int) = a1 % ((k0-1+1 : Nat) : Int) := by omega
  clear qk1 rk1 pk1
  generalize (a1 % ((k0-1+1 : Nat) : Int)).toNat = k1 at hk1 ek1
  have ho : OrcOk Tryz.prog (fun x => if x = 0 then a0 else if x = 1 then a1 else 0) (orc k0 k1) := or_ok (place_ok knownP (fun n k w h1 h2 => place_any n k w h1 h2) (fun e he h0 => by
    simp only [tab, List.mem_cons, List.not_mem_nil, or_false] at he
    rcases he with rfl | rfl
    · exact ⟨by show 6 ≤ 1000000; omega, by simpa using ek0.symm⟩
    · exact ⟨by show k0-1+1 ≤ 1000000; omega, ek1.symm⟩)) (told.told_ok)
  have hy : YsOk (fun x => if x = 0 then a0 else if x = 1 then a1 else 0) (ysR []) := ysR_ok (fun e he => by
    simp at he)
  have := law_rows hy (inL_ok fsL_ok) ho kcOk globs rowsOk hK (alls k0 hk0 k1 hk1) (vs := [.int .i64 a0, .int .i64 a1]) (fun _ => denC_cons.2 ⟨_, _, rfl, rfl, denC_cons.2 ⟨_, _, rfl, rfl, denC_nil.2 rfl⟩⟩)
  exact this.mono fun e w' h => ⟨h.1, h.2.below⟩
end Go.Proofs.YtpbafdgigajcnaaGreatDoor.pgraphWrongq
