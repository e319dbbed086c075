/-
  The functions that some laws reach, in the evaluator's own form, and that this is what the program's text becomes. Conditions: none; these are closed facts.
-/
import Derived.Test.YtphcmjojnfpkdaaDoorTxtP0
import Derived.Test.YtphcmjojnfpkdaaDoorTxtP1
namespace Go.Proofs.YtphcmjojnfpkdaaDoor.txt
open Go.Rn
def fsL : List (Nat × RF) := [(3, rc3), (4, rc4), (5, rc5), (6, rc6), (7, rc7), (8, rc8), (9, rc9), (10, rc10), (11, rc11), (12, rc12), (13, rc13), (14, rc14), (16, rc16), (17, rc17), (18, rc18), (19, rc19), (20, rc20), (21, rc21), (22, rc22), (23, rc23), (25, rc25), (26, rc26), (27, rc27), (28, rc28), (29, rc29), (30, rc30), (31, rc31), (32, rc32), (33, rc33), (34, rc34), (35, rc35), (36, rc36), (37, rc37), (38, rc38), (39, rc39), (40, rc40), (41, rc41), (42, rc42), (43, rc43), (44, rc44), (45, rc45), (46, rc46), (47, rc47), (48, rc48), (49, rc49), (50, rc50), (51, rc51), (52, rc52), (53, rc53), (54, rc54), (55, rc55), (56, rc56), (57, rc57), (58, rc58), (61, rc61), (62, rc62)]
theorem fsL_ok : ∀ e ∈ fsL, compF Tryd.prog e.1 = some e.2 := by
  unfold fsL
  refine List.forall_mem_cons.2 ⟨rc3_ok, ?_⟩
  refine List.forall_mem_cons.2 ⟨rc4_ok, ?_⟩
  refine List.forall_mem_cons.2 ⟨rc5_ok, ?_⟩
  refine List.forall_mem_cons.2 ⟨rc6_ok, ?_⟩
  refine List.forall_mem_cons.2 ⟨rc7_ok, ?_⟩
  refine List.forall_mem_cons.2 ⟨rc8_ok, ?_⟩
  refine List.forall_mem_cons.2 ⟨rc9_ok, ?_⟩
  refine List.forall_mem_cons.2 ⟨rc10_ok, ?_⟩
  refine List.forall_mem_cons.2 ⟨rc11_ok, ?_⟩
  refine List.forall_mem_cons.2 ⟨rc12_ok, ?_⟩
  refine List.forall_mem_cons.2 ⟨rc13_ok, ?_⟩
  refine List.forall_mem_cons.2 ⟨rc14_ok, ?_⟩
  refine List.forall_mem_cons.2 ⟨rc16_ok, ?_⟩
  refine List.forall_mem_cons.2 ⟨rc17_ok, ?_⟩
  refine List.forall_mem_cons.2 ⟨rc18_ok, ?_⟩
  refine List.forall_mem_cons.2 ⟨rc19_ok, ?_⟩
  refine List.forall_mem_cons.2 ⟨rc20_ok, ?_⟩
  refine List.forall_mem_cons.2 ⟨rc21_ok, ?_⟩
  refine List.forall_mem_cons.2 ⟨rc22_ok, ?_⟩
  refine List.forall_mem_cons.2 ⟨rc23_ok, ?_⟩
  refine List.forall_mem_cons.2 ⟨rc25_ok, ?_⟩
  refine List.forall_mem_cons.2 ⟨rc26_ok, ?_⟩
  refine List.forall_mem_cons.2 ⟨rc27_ok, ?_⟩
  refine List.forall_mem_cons.2 ⟨rc28_ok, ?_⟩
  refine List.forall_mem_cons.2 ⟨rc29_ok, ?_⟩
  refine List.forall_mem_cons.2 ⟨rc30_ok, ?_⟩
  refine List.forall_mem_cons.2 ⟨rc31_ok, ?_⟩
  refine List.forall_mem_cons.2 ⟨rc32_ok, ?_⟩
  refine List.forall_mem_cons.2 ⟨rc33_ok, ?_⟩
  refine List.forall_mem_cons.2 ⟨rc34_ok, ?_⟩
  refine List.forall_mem_cons.2 ⟨rc35_ok, ?_⟩
  refine List.forall_mem_cons.2 ⟨rc36_ok, ?_⟩
  refine List.forall_mem_cons.2 ⟨rc37_ok, ?_⟩
  refine List.forall_mem_cons.2 ⟨rc38_ok, ?_⟩
  refine List.forall_mem_cons.2 ⟨rc39_ok, ?_⟩
  refine List.forall_mem_cons.2 ⟨rc40_ok, ?_⟩
  refine List.forall_mem_cons.2 ⟨rc41_ok, ?_⟩
  refine List.forall_mem_cons.2 ⟨rc42_ok, ?_⟩
  refine List.forall_mem_cons.2 ⟨rc43_ok, ?_⟩
  refine List.forall_mem_cons.2 ⟨rc44_ok, ?_⟩
  refine List.forall_mem_cons.2 ⟨rc45_ok, ?_⟩
  refine List.forall_mem_cons.2 ⟨rc46_ok, ?_⟩
  refine List.forall_mem_cons.2 ⟨rc47_ok, ?_⟩
  refine List.forall_mem_cons.2 ⟨rc48_ok, ?_⟩
  refine List.forall_mem_cons.2 ⟨rc49_ok, ?_⟩
  refine List.forall_mem_cons.2 ⟨rc50_ok, ?_⟩
  refine List.forall_mem_cons.2 ⟨rc51_ok, ?_⟩
  refine List.forall_mem_cons.2 ⟨rc52_ok, ?_⟩
  refine List.forall_mem_cons.2 ⟨rc53_ok, ?_⟩
  refine List.forall_mem_cons.2 ⟨rc54_ok, ?_⟩
  refine List.forall_mem_cons.2 ⟨rc55_ok, ?_⟩
  refine List.forall_mem_cons.2 ⟨rc56_ok, ?_⟩
  refine List.forall_mem_cons.2 ⟨rc57_ok, ?_⟩
  refine List.forall_mem_cons.2 ⟨rc58_ok, ?_⟩
  refine List.forall_mem_cons.2 ⟨rc61_ok, ?_⟩
  refine List.forall_mem_cons.2 ⟨rc62_ok, ?_⟩
  exact fun _ h => (by cases h)

end Go.Proofs.YtphcmjojnfpkdaaDoor.txt
