/-
  The law AsmBounds at all of its cases. Conditions: none but those that the theorems print.
-/
import Derived.Test.YtbobmgmgnbgjdaaGreatDoorAsmBoundsB
import Derived.Test.YtbobmgmgnbgjdaaGreatDoorAsmBoundsC
import Derived.WalkKit
import Derived.ProofKit
namespace Go.Proofs.YtbobmgmgnbgjdaaGreatDoor.asmBoundsq
open Go.Rn Go.RowKit YtbobmgmgnbgjdaaGreatDoor.txt
theorem alls : ∀ k0, k0 < 4 → ∀ k1, k1 < 3 → run k0 k1 = .yes
  | 0, _, 0, _ => c0_0
  | 0, _, 1, _ => c0_1
  | 0, _, 2, _ => c0_2
  | 1, _, 0, _ => c1_0
  | 1, _, 1, _ => c1_1
  | 1, _, 2, _ => c1_2
  | 2, _, 0, _ => c2_0
  | 2, _, 1, _ => c2_1
  | 2, _, 2, _ => c2_2
  | 3, _, 0, _ => c3_0
  | 3, _, 1, _ => c3_1
  | 3, _, 2, _ => c3_2
  | k + 4, h, _, _ => absurd h (by omega)
  | _, _, k + 3, h => absurd h (by omega)
theorem walk (a0 : Int) (a1 : Int) (w : World) (hK : RowsAt rows w) :
    Calls Tryz.prog 5 #[.int .i64 a0, .int .i64 a1] w fun e w' => e = .returned (.bool true) ∧ Below w.heap.size w w' := by
  have hk0 : (a0 % 4).toNat < 4 := by omega
  have ek0 : ((a0 % 4).toNat : Int) = a0 % 4 := by omega
  generalize (a0 % 4).toNat = k0 at hk0 ek0
  have hk1 : (a1 % 3).toNat < 3 := by omega
  have ek1 : ((a1 % 3).toNat : Int) = a1 % 3 := by omega
  generalize (a1 % 3).toNat = k1 at hk1 ek1
  have ho : OrcOk Tryz.prog (fun x => if x = 0 then a0 else if x = 1 then a1 else 0) (orc k0 k1) := or_ok (place_ok knownP (fun n k w h1 h2 => place_any n k w h1 h2) (fun e he h0 => by
    simp only [tab, List.mem_cons, List.not_mem_nil, or_false] at he
    rcases he with rfl | rfl
    · exact ⟨by show 4 ≤ 1000000; omega, by simpa using ek0.symm⟩
    · exact ⟨by show 3 ≤ 1000000; omega, by simpa using ek1.symm⟩)) (or_ok (told.told_ok) (const_ok knownA awake_ok))
  have hy : YsOk (fun x => if x = 0 then a0 else if x = 1 then a1 else 0) (ysR []) := ysR_ok (fun e he => by
    simp at he)
  have := law_rows hy (inL_ok fsL_ok) ho kcOk globs rowsOk hK (alls k0 hk0 k1 hk1) (vs := [.int .i64 a0, .int .i64 a1]) (fun _ => denC_cons.2 ⟨_, _, rfl, rfl, denC_cons.2 ⟨_, _, rfl, rfl, denC_nil.2 rfl⟩⟩)
  exact this.mono fun e w' h => ⟨h.1, h.2.below⟩
end Go.Proofs.YtbobmgmgnbgjdaaGreatDoor.asmBoundsq
