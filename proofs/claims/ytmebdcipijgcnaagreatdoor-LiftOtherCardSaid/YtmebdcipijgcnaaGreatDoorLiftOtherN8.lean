/-
  The law LiftOther at some of its cases: the run over the program ends in true. Conditions: none; these are closed facts.
-/
import Derived.Test.YtmebdcipijgcnaaGreatDoorLiftOtherA
namespace Go.Proofs.YtmebdcipijgcnaaGreatDoor.liftOtherq
open Go.Rn YtmebdcipijgcnaaGreatDoor.txt
set_option maxHeartbeats 400000000
theorem n800 : run 800 = .yes := by kernel_rfl
theorem n801 : run 801 = .yes := by kernel_rfl
theorem n802 : run 802 = .yes := by kernel_rfl
theorem n803 : run 803 = .yes := by kernel_rfl
theorem n804 : run 804 = .yes := by kernel_rfl
theorem n805 : run 805 = .yes := by kernel_rfl
theorem n806 : run 806 = .yes := by kernel_rfl
theorem n807 : run 807 = .yes := by kernel_rfl
theorem n808 : run 808 = .yes := by kernel_rfl
theorem n809 : run 809 = .yes := by kernel_rfl
theorem n810 : run 810 = .yes := by kernel_rfl
theorem n811 : run 811 = .yes := by kernel_rfl
theorem n812 : run 812 = .yes := by kernel_rfl
theorem n813 : run 813 = .yes := by kernel_rfl
theorem n814 : run 814 = .yes := by kernel_rfl
theorem n815 : run 815 = .yes := by kernel_rfl
theorem n816 : run 816 = .yes := by kernel_rfl
theorem n817 : run 817 = .yes := by kernel_rfl
theorem n818 : run 818 = .yes := by kernel_rfl
theorem n819 : run 819 = .yes := by kernel_rfl
theorem n820 : run 820 = .yes := by kernel_rfl
theorem n821 : run 821 = .yes := by kernel_rfl
theorem n822 : run 822 = .yes := by kernel_rfl
theorem n823 : run 823 = .yes := by kernel_rfl
theorem n824 : run 824 = .yes := by kernel_rfl
theorem n825 : run 825 = .yes := by kernel_rfl
theorem n826 : run 826 = .yes := by kernel_rfl
theorem n827 : run 827 = .yes := by kernel_rfl
theorem n828 : run 828 = .yes := by kernel_rfl
theorem n829 : run 829 = .yes := by kernel_rfl
theorem n830 : run 830 = .yes := by kernel_rfl
theorem n831 : run 831 = .yes := by kernel_rfl
theorem n832 : run 832 = .yes := by kernel_rfl
theorem n833 : run 833 = .yes := by kernel_rfl
theorem n834 : run 834 = .yes := by kernel_rfl
theorem n835 : run 835 = .yes := by kernel_rfl
theorem n836 : run 836 = .yes := by kernel_rfl
theorem n837 : run 837 = .yes := by kernel_rfl
theorem n838 : run 838 = .yes := by kernel_rfl
theorem n839 : run 839 = .yes := by kernel_rfl
theorem n840 : run 840 = .yes := by kernel_rfl
theorem n841 : run 841 = .yes := by kernel_rfl
theorem n842 : run 842 = .yes := by kernel_rfl
theorem n843 : run 843 = .yes := by kernel_rfl
theorem n844 : run 844 = .yes := by kernel_rfl
theorem n845 : run 845 = .yes := by kernel_rfl
theorem n846 : run 846 = .yes := by kernel_rfl
theorem n847 : run 847 = .yes := by kernel_rfl
theorem n848 : run 848 = .yes := by kernel_rfl
theorem n849 : run 849 = .yes := by kernel_rfl
theorem n850 : run 850 = .yes := by kernel_rfl
theorem n851 : run 851 = .yes := by kernel_rfl
theorem n852 : run 852 = .yes := by kernel_rfl
theorem n853 : run 853 = .yes := by kernel_rfl
theorem n854 : run 854 = .yes := by kernel_rfl
theorem n855 : run 855 = .yes := by kernel_rfl
theorem n856 : run 856 = .yes := by kernel_rfl
theorem n857 : run 857 = .yes := by kernel_rfl
theorem n858 : run 858 = .yes := by kernel_rfl
theorem n859 : run 859 = .yes := by kernel_rfl
theorem n860 : run 860 = .yes := by kernel_rfl
theorem n861 : run 861 = .yes := by kernel_rfl
theorem n862 : run 862 = .yes := by kernel_rfl
theorem n863 : run 863 = .yes := by kernel_rfl
theorem n864 : run 864 = .yes := by kernel_rfl
theorem n865 : run 865 = .yes := by kernel_rfl
theorem n866 : run 866 = .yes := by kernel_rfl
theorem n867 : run 867 = .yes := by kernel_rfl
theorem n868 : run 868 = .yes := by kernel_rfl
theorem n869 : run 869 = .yes := by kernel_rfl
theorem n870 : run 870 = .yes := by kernel_rfl
theorem n871 : run 871 = .yes := by kernel_rfl
theorem n872 : run 872 = .yes := by kernel_rfl
theorem n873 : run 873 = .yes := by kernel_rfl
theorem n874 : run 874 = .yes := by kernel_rfl
theorem n875 : run 875 = .yes := by kernel_rfl
theorem n876 : run 876 = .yes := by kernel_rfl
theorem n877 : run 877 = .yes := by kernel_rfl
theorem n878 : run 878 = .yes := by kernel_rfl
theorem n879 : run 879 = .yes := by kernel_rfl
theorem n880 : run 880 = .yes := by kernel_rfl
theorem n881 : run 881 = .yes := by kernel_rfl
theorem n882 : run 882 = .yes := by kernel_rfl
theorem n883 : run 883 = .yes := by kernel_rfl
theorem n884 : run 884 = .yes := by kernel_rfl
theorem n885 : run 885 = .yes := by kernel_rfl
theorem n886 : run 886 = .yes := by kernel_rfl
theorem n887 : run 887 = .yes := by kernel_rfl
theorem n888 : run 888 = .yes := by kernel_rfl
theorem n889 : run 889 = .yes := by kernel_rfl
theorem n890 : run 890 = .yes := by kernel_rfl
theorem n891 : run 891 = .yes := by kernel_rfl
theorem n892 : run 892 = .yes := by kernel_rfl
theorem n893 : run 893 = .yes := by kernel_rfl
theorem n894 : run 894 = .yes := by kernel_rfl
theorem n895 : run 895 = .yes := by kernel_rfl
theorem n896 : run 896 = .yes := by kernel_rfl
theorem n897 : run 897 = .yes := by kernel_rfl
theorem n898 : run 898 = .yes := by kernel_rfl
theorem n899 : run 899 = .yes := by kernel_rfl
theorem nb8_0 : ∀ c, c < 10 → run (800 + c) = .yes
  | 0, _ => n800
  | 1, _ => n801
  | 2, _ => n802
  | 3, _ => n803
  | 4, _ => n804
  | 5, _ => n805
  | 6, _ => n806
  | 7, _ => n807
  | 8, _ => n808
  | 9, _ => n809
  | c + 10, h => absurd h (by omega)
theorem nb8_1 : ∀ c, c < 10 → run (810 + c) = .yes
  | 0, _ => n810
  | 1, _ => n811
  | 2, _ => n812
  | 3, _ => n813
  | 4, _ => n814
  | 5, _ => n815
  | 6, _ => n816
  | 7, _ => n817
  | 8, _ => n818
  | 9, _ => n819
  | c + 10, h => absurd h (by omega)
theorem nb8_2 : ∀ c, c < 10 → run (820 + c) = .yes
  | 0, _ => n820
  | 1, _ => n821
  | 2, _ => n822
  | 3, _ => n823
  | 4, _ => n824
  | 5, _ => n825
  | 6, _ => n826
  | 7, _ => n827
  | 8, _ => n828
  | 9, _ => n829
  | c + 10, h => absurd h (by omega)
theorem nb8_3 : ∀ c, c < 10 → run (830 + c) = .yes
  | 0, _ => n830
  | 1, _ => n831
  | 2, _ => n832
  | 3, _ => n833
  | 4, _ => n834
  | 5, _ => n835
  | 6, _ => n836
  | 7, _ => n837
  | 8, _ => n838
  | 9, _ => n839
  | c + 10, h => absurd h (by omega)
theorem nb8_4 : ∀ c, c < 10 → run (840 + c) = .yes
  | 0, _ => n840
  | 1, _ => n841
  | 2, _ => n842
  | 3, _ => n843
  | 4, _ => n844
  | 5, _ => n845
  | 6, _ => n846
  | 7, _ => n847
  | 8, _ => n848
  | 9, _ => n849
  | c + 10, h => absurd h (by omega)
theorem nb8_5 : ∀ c, c < 10 → run (850 + c) = .yes
  | 0, _ => n850
  | 1, _ => n851
  | 2, _ => n852
  | 3, _ => n853
  | 4, _ => n854
  | 5, _ => n855
  | 6, _ => n856
  | 7, _ => n857
  | 8, _ => n858
  | 9, _ => n859
  | c + 10, h => absurd h (by omega)
theorem nb8_6 : ∀ c, c < 10 → run (860 + c) = .yes
  | 0, _ => n860
  | 1, _ => n861
  | 2, _ => n862
  | 3, _ => n863
  | 4, _ => n864
  | 5, _ => n865
  | 6, _ => n866
  | 7, _ => n867
  | 8, _ => n868
  | 9, _ => n869
  | c + 10, h => absurd h (by omega)
theorem nb8_7 : ∀ c, c < 10 → run (870 + c) = .yes
  | 0, _ => n870
  | 1, _ => n871
  | 2, _ => n872
  | 3, _ => n873
  | 4, _ => n874
  | 5, _ => n875
  | 6, _ => n876
  | 7, _ => n877
  | 8, _ => n878
  | 9, _ => n879
  | c + 10, h => absurd h (by omega)
theorem nb8_8 : ∀ c, c < 10 → run (880 + c) = .yes
  | 0, _ => n880
  | 1, _ => n881
  | 2, _ => n882
  | 3, _ => n883
  | 4, _ => n884
  | 5, _ => n885
  | 6, _ => n886
  | 7, _ => n887
  | 8, _ => n888
  | 9, _ => n889
  | c + 10, h => absurd h (by omega)
theorem nb8_9 : ∀ c, c < 10 → run (890 + c) = .yes
  | 0, _ => n890
  | 1, _ => n891
  | 2, _ => n892
  | 3, _ => n893
  | 4, _ => n894
  | 5, _ => n895
  | 6, _ => n896
  | 7, _ => n897
  | 8, _ => n898
  | 9, _ => n899
  | c + 10, h => absurd h (by omega)
theorem na8 : ∀ b, b < 10 → ∀ c, c < 10 → run (800 + 10 * b + c) = .yes
  | 0, _ => nb8_0
  | 1, _ => nb8_1
  | 2, _ => nb8_2
  | 3, _ => nb8_3
  | 4, _ => nb8_4
  | 5, _ => nb8_5
  | 6, _ => nb8_6
  | 7, _ => nb8_7
  | 8, _ => nb8_8
  | 9, _ => nb8_9
  | b + 10, h => absurd h (by omega)
end Go.Proofs.YtmebdcipijgcnaaGreatDoor.liftOtherq
