/-
  The functions that some laws reach, in the evaluator's own form, and that this is what the program's text becomes. Conditions: none; these are closed facts.
-/
import Derived.Test.YtlfnmlecmdkgbaaGreatDoorTxtP0
import Derived.Test.YtlfnmlecmdkgbaaGreatDoorTxtP1
import Derived.Test.YtlfnmlecmdkgbaaGreatDoorTxtP2
import Derived.Test.YtlfnmlecmdkgbaaGreatDoorTxtP3
namespace Go.Proofs.YtlfnmlecmdkgbaaGreatDoor.txt
open Go.Rn
def fsL : List (Nat × RF) := [(3, rc3), (4, rc4), (5, rc5), (7, rc7), (8, rc8), (9, rc9), (10, rc10), (11, rc11), (12, rc12), (14, rc14), (15, rc15), (16, rc16), (17, rc17), (18, rc18), (19, rc19), (23, rc23), (24, rc24), (25, rc25), (26, rc26), (27, rc27), (28, rc28), (32, rc32), (33, rc33), (34, rc34), (35, rc35), (36, rc36), (37, rc37), (38, rc38), (55, rc55), (56, rc56), (57, rc57), (58, rc58), (59, rc59), (60, rc60), (61, rc61), (62, rc62), (63, rc63), (64, rc64), (65, rc65), (66, rc66), (67, rc67), (76, rc76), (77, rc77), (78, rc78), (79, rc79), (80, rc80), (81, rc81), (82, rc82), (83, rc83), (84, rc84), (85, rc85), (86, rc86), (87, rc87), (88, rc88), (89, rc89), (96, rc96), (97, rc97), (98, rc98), (99, rc99), (100, rc100), (101, rc101), (102, rc102), (103, rc103), (104, rc104), (105, rc105), (106, rc106), (107, rc107), (108, rc108), (109, rc109), (110, rc110), (111, rc111), (113, rc113), (114, rc114), (115, rc115), (116, rc116), (117, rc117), (118, rc118), (119, rc119), (120, rc120), (121, rc121), (122, rc122), (123, rc123), (124, rc124), (125, rc125), (126, rc126), (127, rc127), (129, rc129), (130, rc130), (131, rc131), (132, rc132), (133, rc133), (134, rc134), (135, rc135), (136, rc136), (137, rc137), (138, rc138), (139, rc139), (140, rc140), (141, rc141), (143, rc143), (146, rc146), (147, rc147), (148, rc148), (149, rc149), (150, rc150), (151, rc151), (152, rc152), (153, rc153), (156, rc156), (16785408, rc16785408), (16804864, rc16804864)]
theorem fsL_ok : ∀ e ∈ fsL, compF Tryz.prog e.1 = some e.2 := by
  unfold fsL
  refine List.forall_mem_cons.2 ⟨rc3_ok, ?_⟩
  refine List.forall_mem_cons.2 ⟨rc4_ok, ?_⟩
  refine List.forall_mem_cons.2 ⟨rc5_ok, ?_⟩
  refine List.forall_mem_cons.2 ⟨rc7_ok, ?_⟩
  refine List.forall_mem_cons.2 ⟨rc8_ok, ?_⟩
  refine List.forall_mem_cons.2 ⟨rc9_ok, ?_⟩
  refine List.forall_mem_cons.2 ⟨rc10_ok, ?_⟩
  refine List.forall_mem_cons.2 ⟨rc11_ok, ?_⟩
  refine List.forall_mem_cons.2 ⟨rc12_ok, ?_⟩
  refine List.forall_mem_cons.2 ⟨rc14_ok, ?_⟩
  refine List.forall_mem_cons.2 ⟨rc15_ok, ?_⟩
  refine List.forall_mem_cons.2 ⟨rc16_ok, ?_⟩
  refine List.forall_mem_cons.2 ⟨rc17_ok, ?_⟩
  refine List.forall_mem_cons.2 ⟨rc18_ok, ?_⟩
  refine List.forall_mem_cons.2 ⟨rc19_ok, ?_⟩
  refine List.forall_mem_cons.2 ⟨rc23_ok, ?_⟩
  refine List.forall_mem_cons.2 ⟨rc24_ok, ?_⟩
  refine List.forall_mem_cons.2 ⟨rc25_ok, ?_⟩
  refine List.forall_mem_cons.2 ⟨rc26_ok, ?_⟩
  refine List.forall_mem_cons.2 ⟨rc27_ok, ?_⟩
  refine List.forall_mem_cons.2 ⟨rc28_ok, ?_⟩
  refine List.forall_mem_cons.2 ⟨rc32_ok, ?_⟩
  refine List.forall_mem_cons.2 ⟨rc33_ok, ?_⟩
  refine List.forall_mem_cons.2 ⟨rc34_ok, ?_⟩
  refine List.forall_mem_cons.2 ⟨rc35_ok, ?_⟩
  refine List.forall_mem_cons.2 ⟨rc36_ok, ?_⟩
  refine List.forall_mem_cons.2 ⟨rc37_ok, ?_⟩
  refine List.forall_mem_cons.2 ⟨rc38_ok, ?_⟩
  refine List.forall_mem_cons.2 ⟨rc55_ok, ?_⟩
  refine List.forall_mem_cons.2 ⟨rc56_ok, ?_⟩
  refine List.forall_mem_cons.2 ⟨rc57_ok, ?_⟩
  refine List.forall_mem_cons.2 ⟨rc58_ok, ?_⟩
  refine List.forall_mem_cons.2 ⟨rc59_ok, ?_⟩
  refine List.forall_mem_cons.2 ⟨rc60_ok, ?_⟩
  refine List.forall_mem_cons.2 ⟨rc61_ok, ?_⟩
  refine List.forall_mem_cons.2 ⟨rc62_ok, ?_⟩
  refine List.forall_mem_cons.2 ⟨rc63_ok, ?_⟩
  refine List.forall_mem_cons.2 ⟨rc64_ok, ?_⟩
  refine List.forall_mem_cons.2 ⟨rc65_ok, ?_⟩
  refine List.forall_mem_cons.2 ⟨rc66_ok, ?_⟩
  refine List.forall_mem_cons.2 ⟨rc67_ok, ?_⟩
  refine List.forall_mem_cons.2 ⟨rc76_ok, ?_⟩
  refine List.forall_mem_cons.2 ⟨rc77_ok, ?_⟩
  refine List.forall_mem_cons.2 ⟨rc78_ok, ?_⟩
  refine List.forall_mem_cons.2 ⟨rc79_ok, ?_⟩
  refine List.forall_mem_cons.2 ⟨rc80_ok, ?_⟩
  refine List.forall_mem_cons.2 ⟨rc81_ok, ?_⟩
  refine List.forall_mem_cons.2 ⟨rc82_ok, ?_⟩
  refine List.forall_mem_cons.2 ⟨rc83_ok, ?_⟩
  refine List.forall_mem_cons.2 ⟨rc84_ok, ?_⟩
  refine List.forall_mem_cons.2 ⟨rc85_ok, ?_⟩
  refine List.forall_mem_cons.2 ⟨rc86_ok, ?_⟩
  refine List.forall_mem_cons.2 ⟨rc87_ok, ?_⟩
  refine List.forall_mem_cons.2 ⟨rc88_ok, ?_⟩
  refine List.forall_mem_cons.2 ⟨rc89_ok, ?_⟩
  refine List.forall_mem_cons.2 ⟨rc96_ok, ?_⟩
  refine List.forall_mem_cons.2 ⟨rc97_ok, ?_⟩
  refine List.forall_mem_cons.2 ⟨rc98_ok, ?_⟩
  refine List.forall_mem_cons.2 ⟨rc99_ok, ?_⟩
  refine List.forall_mem_cons.2 ⟨rc100_ok, ?_⟩
  refine List.forall_mem_cons.2 ⟨rc101_ok, ?_⟩
  refine List.forall_mem_cons.2 ⟨rc102_ok, ?_⟩
  refine List.forall_mem_cons.2 ⟨rc103_ok, ?_⟩
  refine List.forall_mem_cons.2 ⟨rc104_ok, ?_⟩
  refine List.forall_mem_cons.2 ⟨rc105_ok, ?_⟩
  refine List.forall_mem_cons.2 ⟨rc106_ok, ?_⟩
  refine List.forall_mem_cons.2 ⟨rc107_ok, ?_⟩
  refine List.forall_mem_cons.2 ⟨rc108_ok, ?_⟩
  refine List.forall_mem_cons.2 ⟨rc109_ok, ?_⟩
  refine List.forall_mem_cons.2 ⟨rc110_ok, ?_⟩
  refine List.forall_mem_cons.2 ⟨rc111_ok, ?_⟩
  refine List.forall_mem_cons.2 ⟨rc113_ok, ?_⟩
  refine List.forall_mem_cons.2 ⟨rc114_ok, ?_⟩
  refine List.forall_mem_cons.2 ⟨rc115_ok, ?_⟩
  refine List.forall_mem_cons.2 ⟨rc116_ok, ?_⟩
  refine List.forall_mem_cons.2 ⟨rc117_ok, ?_⟩
  refine List.forall_mem_cons.2 ⟨rc118_ok, ?_⟩
  refine List.forall_mem_cons.2 ⟨rc119_ok, ?_⟩
  refine List.forall_mem_cons.2 ⟨rc120_ok, ?_⟩
  refine List.forall_mem_cons.2 ⟨rc121_ok, ?_⟩
  refine List.forall_mem_cons.2 ⟨rc122_ok, ?_⟩
  refine List.forall_mem_cons.2 ⟨rc123_ok, ?_⟩
  refine List.forall_mem_cons.2 ⟨rc124_ok, ?_⟩
  refine List.forall_mem_cons.2 ⟨rc125_ok, ?_⟩
  refine List.forall_mem_cons.2 ⟨rc126_ok, ?_⟩
  refine List.forall_mem_cons.2 ⟨rc127_ok, ?_⟩
  refine List.forall_mem_cons.2 ⟨rc129_ok, ?_⟩
  refine List.forall_mem_cons.2 ⟨rc130_ok, ?_⟩
  refine List.forall_mem_cons.2 ⟨rc131_ok, ?_⟩
  refine List.forall_mem_cons.2 ⟨rc132_ok, ?_⟩
  refine List.forall_mem_cons.2 ⟨rc133_ok, ?_⟩
  refine List.forall_mem_cons.2 ⟨rc134_ok, ?_⟩
  refine List.forall_mem_cons.2 ⟨rc135_ok, ?_⟩
  refine List.forall_mem_cons.2 ⟨rc136_ok, ?_⟩
  refine List.forall_mem_cons.2 ⟨rc137_ok, ?_⟩
  refine List.forall_mem_cons.2 ⟨rc138_ok, ?_⟩
  refine List.forall_mem_cons.2 ⟨rc139_ok, ?_⟩
  refine List.forall_mem_cons.2 ⟨rc140_ok, ?_⟩
  refine List.forall_mem_cons.2 ⟨rc141_ok, ?_⟩
  refine List.forall_mem_cons.2 ⟨rc143_ok, ?_⟩
  refine List.forall_mem_cons.2 ⟨rc146_ok, ?_⟩
  refine List.forall_mem_cons.2 ⟨rc147_ok, ?_⟩
  refine List.forall_mem_cons.2 ⟨rc148_ok, ?_⟩
  refine List.forall_mem_cons.2 ⟨rc149_ok, ?_⟩
  refine List.forall_mem_cons.2 ⟨rc150_ok, ?_⟩
  refine List.forall_mem_cons.2 ⟨rc151_ok, ?_⟩
  refine List.forall_mem_cons.2 ⟨rc152_ok, ?_⟩
  refine List.forall_mem_cons.2 ⟨rc153_ok, ?_⟩
  refine List.forall_mem_cons.2 ⟨rc156_ok, ?_⟩
  refine List.forall_mem_cons.2 ⟨rc16785408_ok, ?_⟩
  refine List.forall_mem_cons.2 ⟨rc16804864_ok, ?_⟩
  exact fun _ h => (by cases h)

end Go.Proofs.YtlfnmlecmdkgbaaGreatDoor.txt
