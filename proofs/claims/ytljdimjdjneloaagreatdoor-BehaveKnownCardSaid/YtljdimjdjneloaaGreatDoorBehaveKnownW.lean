/-
  The law BehaveKnown at all of its cases. Conditions: none but those that the theorems print.
-/
import Derived.Test.YtljdimjdjneloaaGreatDoorBehaveKnownB
import Derived.Test.YtljdimjdjneloaaGreatDoorBehaveKnownC
import Derived.Test.YtljdimjdjneloaaGreatDoorBehaveKnownD
import Derived.WalkKit
import Derived.ProofKit
namespace Go.Proofs.YtljdimjdjneloaaGreatDoor.behaveKnownq
open Go.Rn Go.RowKit YtljdimjdjneloaaGreatDoor.txt
theorem alls : ∀ k0, k0 < 3 → ∀ b1 : Bool, run k0 b1 = .yes
  | 0, _, true => c0_t
  | 0, _, false => c0_f
  | 1, _, true => c1_t
  | 1, _, false => c1_f
  | 2, _, true => c2_t
  | 2, _, false => c2_f
  | k + 3, h, _ => absurd h (by omega)
theorem walk (a0 : Int) (b1 : Bool) (w : World) (hK : RowsAt rows w) :
    Calls Tryz.prog 3 #[.int .i64 a0, .bool b1] w fun e w' => e = .returned (.bool true) ∧ Below w.heap.size w w' := by
  have hk0 : (a0 % 3).toNat < 3 := by omega
  have ek0 : ((a0 % 3).toNat : Int) = a0 % 3 := by omega
  generalize (a0 % 3).toNat = k0 at hk0 ek0
  have ho : OrcOk Tryz.prog (fun x => if x = 0 then a0 else 0) (orc k0) := place_ok knownP (fun n k w h1 h2 => place_any n k w h1 h2) (fun e he h0 => by
    simp only [tab, List.mem_cons, List.not_mem_nil, or_false] at he
    rcases he with rfl
    · exact ⟨by show 3 ≤ 1000000; omega, by simpa using ek0.symm⟩)
  have hy : YsOk (fun x => if x = 0 then a0 else 0) (ysR []) := ysR_ok (fun e he => by
    simp at he)
  have := law_rows hy (inL_ok fsL_ok) ho kcOk globs rowsOk hK (alls k0 hk0 b1) (vs := [.int .i64 a0, .bool b1]) (fun _ => denC_cons.2 ⟨_, _, rfl, rfl, denC_cons.2 ⟨_, _, rfl, rfl, denC_nil.2 rfl⟩⟩)
  exact this.mono fun e w' h => ⟨h.1, h.2.below⟩
end Go.Proofs.YtljdimjdjneloaaGreatDoor.behaveKnownq
