/-
  The functions that some laws reach, in the evaluator's own form, and that this is what the program's text becomes. Conditions: none; these are closed facts.
-/
import Derived.Test.YtbobmgmgnbgjdaaGreatDoorTxuP0
import Derived.Test.YtbobmgmgnbgjdaaGreatDoorTxuP1
namespace Go.Proofs.YtbobmgmgnbgjdaaGreatDoor.txt
open Go.Rn
def fsL : List (Nat × RF) := [(3, rc3), (6, rc6), (7, rc7), (8, rc8), (11, rc11), (12, rc12), (13, rc13), (17, rc17), (18, rc18), (19, rc19), (20, rc20), (21, rc21), (22, rc22), (23, rc23), (24, rc24), (25, rc25), (26, rc26), (27, rc27), (28, rc28), (29, rc29), (30, rc30), (36, rc36), (37, rc37), (38, rc38), (39, rc39), (40, rc40), (41, rc41), (42, rc42), (43, rc43), (44, rc44), (45, rc45), (46, rc46), (47, rc47), (48, rc48), (49, rc49), (50, rc50), (51, rc51), (55, rc55), (56, rc56), (57, rc57), (58, rc58), (59, rc59), (60, rc60), (61, rc61), (62, rc62), (63, rc63), (64, rc64), (65, rc65), (66, rc66), (67, rc67), (68, rc68), (69, rc69), (70, rc70), (71, rc71), (72, rc72), (73, rc73), (74, rc74), (75, rc75), (76, rc76), (77, rc77), (78, rc78), (79, rc79), (80, rc80), (81, rc81), (83, rc83), (84, rc84), (85, rc85), (86, rc86), (87, rc87), (88, rc88), (89, rc89), (90, rc90), (91, rc91), (92, rc92), (93, rc93), (94, rc94), (95, rc95), (96, rc96), (97, rc97), (98, rc98), (99, rc99), (100, rc100), (101, rc101), (105, rc105), (106, rc106), (107, rc107), (108, rc108), (109, rc109), (110, rc110), (111, rc111), (112, rc112), (113, rc113), (114, rc114), (116, rc116), (117, rc117), (118, rc118), (16780032, rc16780032)]
theorem fsL_ok : ∀ e ∈ fsL, compF Tryz.prog e.1 = some e.2 := by
  unfold fsL
  refine List.forall_mem_cons.2 ⟨rc3_ok, ?_⟩
  refine List.forall_mem_cons.2 ⟨rc6_ok, ?_⟩
  refine List.forall_mem_cons.2 ⟨rc7_ok, ?_⟩
  refine List.forall_mem_cons.2 ⟨rc8_ok, ?_⟩
  refine List.forall_mem_cons.2 ⟨rc11_ok, ?_⟩
  refine List.forall_mem_cons.2 ⟨rc12_ok, ?_⟩
  refine List.forall_mem_cons.2 ⟨rc13_ok, ?_⟩
  refine List.forall_mem_cons.2 ⟨rc17_ok, ?_⟩
  refine List.forall_mem_cons.2 ⟨rc18_ok, ?_⟩
  refine List.forall_mem_cons.2 ⟨rc19_ok, ?_⟩
  refine List.forall_mem_cons.2 ⟨rc20_ok, ?_⟩
  refine List.forall_mem_cons.2 ⟨rc21_ok, ?_⟩
  refine List.forall_mem_cons.2 ⟨rc22_ok, ?_⟩
  refine List.forall_mem_cons.2 ⟨rc23_ok, ?_⟩
  refine List.forall_mem_cons.2 ⟨rc24_ok, ?_⟩
  refine List.forall_mem_cons.2 ⟨rc25_ok, ?_⟩
  refine List.forall_mem_cons.2 ⟨rc26_ok, ?_⟩
  refine List.forall_mem_cons.2 ⟨rc27_ok, ?_⟩
  refine List.forall_mem_cons.2 ⟨rc28_ok, ?_⟩
  refine List.forall_mem_cons.2 ⟨rc29_ok, ?_⟩
  refine List.forall_mem_cons.2 ⟨rc30_ok, ?_⟩
  refine List.forall_mem_cons.2 ⟨rc36_ok, ?_⟩
  refine List.forall_mem_cons.2 ⟨rc37_ok, ?_⟩
  refine List.forall_mem_cons.2 ⟨rc38_ok, ?_⟩
  refine List.forall_mem_cons.2 ⟨rc39_ok, ?_⟩
  refine List.forall_mem_cons.2 ⟨rc40_ok, ?_⟩
  refine List.forall_mem_cons.2 ⟨rc41_ok, ?_⟩
  refine List.forall_mem_cons.2 ⟨rc42_ok, ?_⟩
  refine List.forall_mem_cons.2 ⟨rc43_ok, ?_⟩
  refine List.forall_mem_cons.2 ⟨rc44_ok, ?_⟩
  refine List.forall_mem_cons.2 ⟨rc45_ok, ?_⟩
  refine List.forall_mem_cons.2 ⟨rc46_ok, ?_⟩
  refine List.forall_mem_cons.2 ⟨rc47_ok, ?_⟩
  refine List.forall_mem_cons.2 ⟨rc48_ok, ?_⟩
  refine List.forall_mem_cons.2 ⟨rc49_ok, ?_⟩
  refine List.forall_mem_cons.2 ⟨rc50_ok, ?_⟩
  refine List.forall_mem_cons.2 ⟨rc51_ok, ?_⟩
  refine List.forall_mem_cons.2 ⟨rc55_ok, ?_⟩
  refine List.forall_mem_cons.2 ⟨rc56_ok, ?_⟩
  refine List.forall_mem_cons.2 ⟨rc57_ok, ?_⟩
  refine List.forall_mem_cons.2 ⟨rc58_ok, ?_⟩
  refine List.forall_mem_cons.2 ⟨rc59_ok, ?_⟩
  refine List.forall_mem_cons.2 ⟨rc60_ok, ?_⟩
  refine List.forall_mem_cons.2 ⟨rc61_ok, ?_⟩
  refine List.forall_mem_cons.2 ⟨rc62_ok, ?_⟩
  refine List.forall_mem_cons.2 ⟨rc63_ok, ?_⟩
  refine List.forall_mem_cons.2 ⟨rc64_ok, ?_⟩
  refine List.forall_mem_cons.2 ⟨rc65_ok, ?_⟩
  refine List.forall_mem_cons.2 ⟨rc66_ok, ?_⟩
  refine List.forall_mem_cons.2 ⟨rc67_ok, ?_⟩
  refine List.forall_mem_cons.2 ⟨rc68_ok, ?_⟩
  refine List.forall_mem_cons.2 ⟨rc69_ok, ?_⟩
  refine List.forall_mem_cons.2 ⟨rc70_ok, ?_⟩
  refine List.forall_mem_cons.2 ⟨rc71_ok, ?_⟩
  refine List.forall_mem_cons.2 ⟨rc72_ok, ?_⟩
  refine List.forall_mem_cons.2 ⟨rc73_ok, ?_⟩
  refine List.forall_mem_cons.2 ⟨rc74_ok, ?_⟩
  refine List.forall_mem_cons.2 ⟨rc75_ok, ?_⟩
  refine List.forall_mem_cons.2 ⟨rc76_ok, ?_⟩
  refine List.forall_mem_cons.2 ⟨rc77_ok, ?_⟩
  refine List.forall_mem_cons.2 ⟨rc78_ok, ?_⟩
  refine List.forall_mem_cons.2 ⟨rc79_ok, ?_⟩
  refine List.forall_mem_cons.2 ⟨rc80_ok, ?_⟩
  refine List.forall_mem_cons.2 ⟨rc81_ok, ?_⟩
  refine List.forall_mem_cons.2 ⟨rc83_ok, ?_⟩
  refine List.forall_mem_cons.2 ⟨rc84_ok, ?_⟩
  refine List.forall_mem_cons.2 ⟨rc85_ok, ?_⟩
  refine List.forall_mem_cons.2 ⟨rc86_ok, ?_⟩
  refine List.forall_mem_cons.2 ⟨rc87_ok, ?_⟩
  refine List.forall_mem_cons.2 ⟨rc88_ok, ?_⟩
  refine List.forall_mem_cons.2 ⟨rc89_ok, ?_⟩
  refine List.forall_mem_cons.2 ⟨rc90_ok, ?_⟩
  refine List.forall_mem_cons.2 ⟨rc91_ok, ?_⟩
  refine List.forall_mem_cons.2 ⟨rc92_ok, ?_⟩
  refine List.forall_mem_cons.2 ⟨rc93_ok, ?_⟩
  refine List.forall_mem_cons.2 ⟨rc94_ok, ?_⟩
  refine List.forall_mem_cons.2 ⟨rc95_ok, ?_⟩
  refine List.forall_mem_cons.2 ⟨rc96_ok, ?_⟩
  refine List.forall_mem_cons.2 ⟨rc97_ok, ?_⟩
  refine List.forall_mem_cons.2 ⟨rc98_ok, ?_⟩
  refine List.forall_mem_cons.2 ⟨rc99_ok, ?_⟩
  refine List.forall_mem_cons.2 ⟨rc100_ok, ?_⟩
  refine List.forall_mem_cons.2 ⟨rc101_ok, ?_⟩
  refine List.forall_mem_cons.2 ⟨rc105_ok, ?_⟩
  refine List.forall_mem_cons.2 ⟨rc106_ok, ?_⟩
  refine List.forall_mem_cons.2 ⟨rc107_ok, ?_⟩
  refine List.forall_mem_cons.2 ⟨rc108_ok, ?_⟩
  refine List.forall_mem_cons.2 ⟨rc109_ok, ?_⟩
  refine List.forall_mem_cons.2 ⟨rc110_ok, ?_⟩
  refine List.forall_mem_cons.2 ⟨rc111_ok, ?_⟩
  refine List.forall_mem_cons.2 ⟨rc112_ok, ?_⟩
  refine List.forall_mem_cons.2 ⟨rc113_ok, ?_⟩
  refine List.forall_mem_cons.2 ⟨rc114_ok, ?_⟩
  refine List.forall_mem_cons.2 ⟨rc116_ok, ?_⟩
  refine List.forall_mem_cons.2 ⟨rc117_ok, ?_⟩
  refine List.forall_mem_cons.2 ⟨rc118_ok, ?_⟩
  refine List.forall_mem_cons.2 ⟨rc16780032_ok, ?_⟩
  exact fun _ h => (by cases h)

end Go.Proofs.YtbobmgmgnbgjdaaGreatDoor.txt
