/-
  The law CertWrong at all of its cases. Conditions: none but those that the theorems print.
-/
import Derived.Test.YtkddmlcliammbaaDoorCertWrongB
import Derived.Test.YtkddmlcliammbaaDoorCertWrongC
import Derived.Test.YtkddmlcliammbaaDoorCertWrongD
import Derived.Test.YtkddmlcliammbaaDoorCertWrongE
import Derived.WalkKit
import Derived.ProofKit
namespace Go.Proofs.YtkddmlcliammbaaDoor.certWrongq
open Go.Rn Go.RowKit YtkddmlcliammbaaDoor.txt
theorem alls : ∀ k0, k0 < 9 → ∀ k1, k1 < 15 → run k0 k1 = .yes
  | 0, _, 0, _ => c0_0
  | 0, _, 1, _ => c0_1
  | 0, _, 2, _ => c0_2
  | 0, _, 3, _ => c0_3
  | 0, _, 4, _ => c0_4
  | 0, _, 5, _ => c0_5
  | 0, _, 6, _ => c0_6
  | 0, _, 7, _ => c0_7
  | 0, _, 8, _ => c0_8
  | 0, _, 9, _ => c0_9
  | 0, _, 10, _ => c0_10
  | 0, _, 11, _ => c0_11
  | 0, _, 12, _ => c0_12
  | 0, _, 13, _ => c0_13
  | 0, _, 14, _ => c0_14
  | 1, _, 0, _ => c1_0
  | 1, _, 1, _ => c1_1
  | 1, _, 2, _ => c1_2
  | 1, _, 3, _ => c1_3
  | 1, _, 4, _ => c1_4
  | 1, _, 5, _ => c1_5
  | 1, _, 6, _ => c1_6
  | 1, _, 7, _ => c1_7
  | 1, _, 8, _ => c1_8
  | 1, _, 9, _ => c1_9
  | 1, _, 10, _ => c1_10
  | 1, _, 11, _ => c1_11
  | 1, _, 12, _ => c1_12
  | 1, _, 13, _ => c1_13
  | 1, _, 14, _ => c1_14
  | 2, _, 0, _ => c2_0
  | 2, _, 1, _ => c2_1
  | 2, _, 2, _ => c2_2
  | 2, _, 3, _ => c2_3
  | 2, _, 4, _ => c2_4
  | 2, _, 5, _ => c2_5
  | 2, _, 6, _ => c2_6
  | 2, _, 7, _ => c2_7
  | 2, _, 8, _ => c2_8
  | 2, _, 9, _ => c2_9
  | 2, _, 10, _ => c2_10
  | 2, _, 11, _ => c2_11
  | 2, _, 12, _ => c2_12
  | 2, _, 13, _ => c2_13
  | 2, _, 14, _ => c2_14
  | 3, _, 0, _ => c3_0
  | 3, _, 1, _ => c3_1
  | 3, _, 2, _ => c3_2
  | 3, _, 3, _ => c3_3
  | 3, _, 4, _ => c3_4
  | 3, _, 5, _ => c3_5
  | 3, _, 6, _ => c3_6
  | 3, _, 7, _ => c3_7
  | 3, _, 8, _ => c3_8
  | 3, _, 9, _ => c3_9
  | 3, _, 10, _ => c3_10
  | 3, _, 11, _ => c3_11
  | 3, _, 12, _ => c3_12
  | 3, _, 13, _ => c3_13
  | 3, _, 14, _ => c3_14
  | 4, _, 0, _ => c4_0
  | 4, _, 1, _ => c4_1
  | 4, _, 2, _ => c4_2
  | 4, _, 3, _ => c4_3
  | 4, _, 4, _ => c4_4
  | 4, _, 5, _ => c4_5
  | 4, _, 6, _ => c4_6
  | 4, _, 7, _ => c4_7
  | 4, _, 8, _ => c4_8
  | 4, _, 9, _ => c4_9
  | 4, _, 10, _ => c4_10
  | 4, _, 11, _ => c4_11
  | 4, _, 12, _ => c4_12
  | 4, _, 13, _ => c4_13
  | 4, _, 14, _ => c4_14
  | 5, _, 0, _ => c5_0
  | 5, _, 1, _ => c5_1
  | 5, _, 2, _ => c5_2
  | 5, _, 3, _ => c5_3
  | 5, _, 4, _ => c5_4
  | 5, _, 5, _ => c5_5
  | 5, _, 6, _ => c5_6
  | 5, _, 7, _ => c5_7
  | 5, _, 8, _ => c5_8
  | 5, _, 9, _ => c5_9
  | 5, _, 10, _ => c5_10
  | 5, _, 11, _ => c5_11
  | 5, _, 12, _ => c5_12
  | 5, _, 13, _ => c5_13
  | 5, _, 14, _ => c5_14
  | 6, _, 0, _ => c6_0
  | 6, _, 1, _ => c6_1
  | 6, _, 2, _ => c6_2
  | 6, _, 3, _ => c6_3
  | 6, _, 4, _ => c6_4
  | 6, _, 5, _ => c6_5
  | 6, _, 6, _ => c6_6
  | 6, _, 7, _ => c6_7
  | 6, _, 8, _ => c6_8
  | 6, _, 9, _ => c6_9
  | 6, _, 10, _ => c6_10
  | 6, _, 11, _ => c6_11
  | 6, _, 12, _ => c6_12
  | 6, _, 13, _ => c6_13
  | 6, _, 14, _ => c6_14
  | 7, _, 0, _ => c7_0
  | 7, _, 1, _ => c7_1
  | 7, _, 2, _ => c7_2
  | 7, _, 3, _ => c7_3
  | 7, _, 4, _ => c7_4
  | 7, _, 5, _ => c7_5
  | 7, _, 6, _ => c7_6
  | 7, _, 7, _ => c7_7
  | 7, _, 8, _ => c7_8
  | 7, _, 9, _ => c7_9
  | 7, _, 10, _ => c7_10
  | 7, _, 11, _ => c7_11
  | 7, _, 12, _ => c7_12
  | 7, _, 13, _ => c7_13
  | 7, _, 14, _ => c7_14
  | 8, _, 0, _ => c8_0
  | 8, _, 1, _ => c8_1
  | 8, _, 2, _ => c8_2
  | 8, _, 3, _ => c8_3
  | 8, _, 4, _ => c8_4
  | 8, _, 5, _ => c8_5
  | 8, _, 6, _ => c8_6
  | 8, _, 7, _ => c8_7
  | 8, _, 8, _ => c8_8
  | 8, _, 9, _ => c8_9
  | 8, _, 10, _ => c8_10
  | 8, _, 11, _ => c8_11
  | 8, _, 12, _ => c8_12
  | 8, _, 13, _ => c8_13
  | 8, _, 14, _ => c8_14
  | k + 9, h, _, _ => absurd h (by omega)
  | _, _, k + 15, h => absurd h (by omega)
theorem walk (a0 : Int) (a1 : Int) (w : World) (hK : RowsV rows w) :
    Calls Tryd.prog 3 #[.int .i64 a0, .int .i64 a1] w fun e w' => e = .returned (.bool true) ∧ Below w.heap.size w w' := by
  have hk0 : (a0 % 9).toNat < 9 := by omega
  have ek0 : ((a0 % 9).toNat : Int) = a0 % 9 := by omega
  generalize (a0 % 9).toNat = k0 at hk0 ek0
  have hk1 : (a1 % 15).toNat < 15 := by omega
  have ek1 : ((a1 % 15).toNat : Int) = a1 % 15 := by omega
  generalize (a1 % 15).toNat = k1 at hk1 ek1
  have ho : OrcOk Tryd.prog (fun x => if x = 0 then a0 else if x = 1 then a1 else 0) (orc k0 k1) := or_ok (place_ok knownP (fun n k w h1 h2 => place_any n k w h1 h2) (fun e he h0 => by
    simp only [tab, List.mem_cons, List.not_mem_nil, or_false] at he
    rcases he with rfl | rfl
    · exact ⟨by show 9 ≤ 1000000; omega, by simpa using ek0.symm⟩
    · exact ⟨by show 15 ≤ 1000000; omega, by simpa using ek1.symm⟩)) (told.toldG_ok)
  have hy : YsOk (fun x => if x = 0 then a0 else if x = 1 then a1 else 0) (ysR []) := ysR_ok (fun e he => by
    simp at he)
  have := law_rowsV hy (inL_ok fsL_ok) ho kcOk globs rowsOk hK (alls k0 hk0 k1 hk1) (vs := [.int .i64 a0, .int .i64 a1]) (fun _ => denC_cons.2 ⟨_, _, rfl, rfl, denC_cons.2 ⟨_, _, rfl, rfl, denC_nil.2 rfl⟩⟩)
  exact this.mono fun e w' h => ⟨h.1, h.2.below⟩
end Go.Proofs.YtkddmlcliammbaaDoor.certWrongq
