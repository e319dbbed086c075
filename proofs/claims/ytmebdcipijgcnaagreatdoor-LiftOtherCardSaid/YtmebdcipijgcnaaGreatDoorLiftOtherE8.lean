/-
  The law LiftOther at some of its cases: the run over the program ends in true. Conditions: none; these are closed facts.
-/
import Derived.Test.YtmebdcipijgcnaaGreatDoorLiftOtherA
namespace Go.Proofs.YtmebdcipijgcnaaGreatDoor.liftOtherq
open Go.Rn YtmebdcipijgcnaaGreatDoor.txt
set_option maxHeartbeats 400000000
theorem e800 : runE 800 = .yes := by kernel_rfl
theorem e801 : runE 801 = .yes := by kernel_rfl
theorem e802 : runE 802 = .yes := by kernel_rfl
theorem e803 : runE 803 = .yes := by kernel_rfl
theorem e804 : runE 804 = .yes := by kernel_rfl
theorem e805 : runE 805 = .yes := by kernel_rfl
theorem e806 : runE 806 = .yes := by kernel_rfl
theorem e807 : runE 807 = .yes := by kernel_rfl
theorem e808 : runE 808 = .yes := by kernel_rfl
theorem e809 : runE 809 = .yes := by kernel_rfl
theorem e810 : runE 810 = .yes := by kernel_rfl
theorem e811 : runE 811 = .yes := by kernel_rfl
theorem e812 : runE 812 = .yes := by kernel_rfl
theorem e813 : runE 813 = .yes := by kernel_rfl
theorem e814 : runE 814 = .yes := by kernel_rfl
theorem e815 : runE 815 = .yes := by kernel_rfl
theorem e816 : runE 816 = .yes := by kernel_rfl
theorem e817 : runE 817 = .yes := by kernel_rfl
theorem e818 : runE 818 = .yes := by kernel_rfl
theorem e819 : runE 819 = .yes := by kernel_rfl
theorem e820 : runE 820 = .yes := by kernel_rfl
theorem e821 : runE 821 = .yes := by kernel_rfl
theorem e822 : runE 822 = .yes := by kernel_rfl
theorem e823 : runE 823 = .yes := by kernel_rfl
theorem e824 : runE 824 = .yes := by kernel_rfl
theorem e825 : runE 825 = .yes := by kernel_rfl
theorem e826 : runE 826 = .yes := by kernel_rfl
theorem e827 : runE 827 = .yes := by kernel_rfl
theorem e828 : runE 828 = .yes := by kernel_rfl
theorem e829 : runE 829 = .yes := by kernel_rfl
theorem e830 : runE 830 = .yes := by kernel_rfl
theorem e831 : runE 831 = .yes := by kernel_rfl
theorem e832 : runE 832 = .yes := by kernel_rfl
theorem e833 : runE 833 = .yes := by kernel_rfl
theorem e834 : runE 834 = .yes := by kernel_rfl
theorem e835 : runE 835 = .yes := by kernel_rfl
theorem e836 : runE 836 = .yes := by kernel_rfl
theorem e837 : runE 837 = .yes := by kernel_rfl
theorem e838 : runE 838 = .yes := by kernel_rfl
theorem e839 : runE 839 = .yes := by kernel_rfl
theorem e840 : runE 840 = .yes := by kernel_rfl
theorem e841 : runE 841 = .yes := by kernel_rfl
theorem e842 : runE 842 = .yes := by kernel_rfl
theorem e843 : runE 843 = .yes := by kernel_rfl
theorem e844 : runE 844 = .yes := by kernel_rfl
theorem e845 : runE 845 = .yes := by kernel_rfl
theorem e846 : runE 846 = .yes := by kernel_rfl
theorem e847 : runE 847 = .yes := by kernel_rfl
theorem e848 : runE 848 = .yes := by kernel_rfl
theorem e849 : runE 849 = .yes := by kernel_rfl
theorem e850 : runE 850 = .yes := by kernel_rfl
theorem e851 : runE 851 = .yes := by kernel_rfl
theorem e852 : runE 852 = .yes := by kernel_rfl
theorem e853 : runE 853 = .yes := by kernel_rfl
theorem e854 : runE 854 = .yes := by kernel_rfl
theorem e855 : runE 855 = .yes := by kernel_rfl
theorem e856 : runE 856 = .yes := by kernel_rfl
theorem e857 : runE 857 = .yes := by kernel_rfl
theorem e858 : runE 858 = .yes := by kernel_rfl
theorem e859 : runE 859 = .yes := by kernel_rfl
theorem e860 : runE 860 = .yes := by kernel_rfl
theorem e861 : runE 861 = .yes := by kernel_rfl
theorem e862 : runE 862 = .yes := by kernel_rfl
theorem e863 : runE 863 = .yes := by kernel_rfl
theorem e864 : runE 864 = .yes := by kernel_rfl
theorem e865 : runE 865 = .yes := by kernel_rfl
theorem e866 : runE 866 = .yes := by kernel_rfl
theorem e867 : runE 867 = .yes := by kernel_rfl
theorem e868 : runE 868 = .yes := by kernel_rfl
theorem e869 : runE 869 = .yes := by kernel_rfl
theorem e870 : runE 870 = .yes := by kernel_rfl
theorem e871 : runE 871 = .yes := by kernel_rfl
theorem e872 : runE 872 = .yes := by kernel_rfl
theorem e873 : runE 873 = .yes := by kernel_rfl
theorem e874 : runE 874 = .yes := by kernel_rfl
theorem e875 : runE 875 = .yes := by kernel_rfl
theorem e876 : runE 876 = .yes := by kernel_rfl
theorem e877 : runE 877 = .yes := by kernel_rfl
theorem e878 : runE 878 = .yes := by kernel_rfl
theorem e879 : runE 879 = .yes := by kernel_rfl
theorem e880 : runE 880 = .yes := by kernel_rfl
theorem e881 : runE 881 = .yes := by kernel_rfl
theorem e882 : runE 882 = .yes := by kernel_rfl
theorem e883 : runE 883 = .yes := by kernel_rfl
theorem e884 : runE 884 = .yes := by kernel_rfl
theorem e885 : runE 885 = .yes := by kernel_rfl
theorem e886 : runE 886 = .yes := by kernel_rfl
theorem e887 : runE 887 = .yes := by kernel_rfl
theorem e888 : runE 888 = .yes := by kernel_rfl
theorem e889 : runE 889 = .yes := by kernel_rfl
theorem e890 : runE 890 = .yes := by kernel_rfl
theorem e891 : runE 891 = .yes := by kernel_rfl
theorem e892 : runE 892 = .yes := by kernel_rfl
theorem e893 : runE 893 = .yes := by kernel_rfl
theorem e894 : runE 894 = .yes := by kernel_rfl
theorem e895 : runE 895 = .yes := by kernel_rfl
theorem e896 : runE 896 = .yes := by kernel_rfl
theorem e897 : runE 897 = .yes := by kernel_rfl
theorem e898 : runE 898 = .yes := by kernel_rfl
theorem e899 : runE 899 = .yes := by kernel_rfl
theorem eb8_0 : ∀ c, c < 10 → runE (800 + c) = .yes
  | 0, _ => e800
  | 1, _ => e801
  | 2, _ => e802
  | 3, _ => e803
  | 4, _ => e804
  | 5, _ => e805
  | 6, _ => e806
  | 7, _ => e807
  | 8, _ => e808
  | 9, _ => e809
  | c + 10, h => absurd h (by omega)
theorem eb8_1 : ∀ c, c < 10 → runE (810 + c) = .yes
  | 0, _ => e810
  | 1, _ => e811
  | 2, _ => e812
  | 3, _ => e813
  | 4, _ => e814
  | 5, _ => e815
  | 6, _ => e816
  | 7, _ => e817
  | 8, _ => e818
  | 9, _ => e819
  | c + 10, h => absurd h (by omega)
theorem eb8_2 : ∀ c, c < 10 → runE (820 + c) = .yes
  | 0, _ => e820
  | 1, _ => e821
  | 2, _ => e822
  | 3, _ => e823
  | 4, _ => e824
  | 5, _ => e825
  | 6, _ => e826
  | 7, _ => e827
  | 8, _ => e828
  | 9, _ => e829
  | c + 10, h => absurd h (by omega)
theorem eb8_3 : ∀ c, c < 10 → runE (830 + c) = .yes
  | 0, _ => e830
  | 1, _ => e831
  | 2, _ => e832
  | 3, _ => e833
  | 4, _ => e834
  | 5, _ => e835
  | 6, _ => e836
  | 7, _ => e837
  | 8, _ => e838
  | 9, _ => e839
  | c + 10, h => absurd h (by omega)
theorem eb8_4 : ∀ c, c < 10 → runE (840 + c) = .yes
  | 0, _ => e840
  | 1, _ => e841
  | 2, _ => e842
  | 3, _ => e843
  | 4, _ => e844
  | 5, _ => e845
  | 6, _ => e846
  | 7, _ => e847
  | 8, _ => e848
  | 9, _ => e849
  | c + 10, h => absurd h (by omega)
theorem eb8_5 : ∀ c, c < 10 → runE (850 + c) = .yes
  | 0, _ => e850
  | 1, _ => e851
  | 2, _ => e852
  | 3, _ => e853
  | 4, _ => e854
  | 5, _ => e855
  | 6, _ => e856
  | 7, _ => e857
  | 8, _ => e858
  | 9, _ => e859
  | c + 10, h => absurd h (by omega)
theorem eb8_6 : ∀ c, c < 10 → runE (860 + c) = .yes
  | 0, _ => e860
  | 1, _ => e861
  | 2, _ => e862
  | 3, _ => e863
  | 4, _ => e864
  | 5, _ => e865
  | 6, _ => e866
  | 7, _ => e867
  | 8, _ => e868
  | 9, _ => e869
  | c + 10, h => absurd h (by omega)
theorem eb8_7 : ∀ c, c < 10 → runE (870 + c) = .yes
  | 0, _ => e870
  | 1, _ => e871
  | 2, _ => e872
  | 3, _ => e873
  | 4, _ => e874
  | 5, _ => e875
  | 6, _ => e876
  | 7, _ => e877
  | 8, _ => e878
  | 9, _ => e879
  | c + 10, h => absurd h (by omega)
theorem eb8_8 : ∀ c, c < 10 → runE (880 + c) = .yes
  | 0, _ => e880
  | 1, _ => e881
  | 2, _ => e882
  | 3, _ => e883
  | 4, _ => e884
  | 5, _ => e885
  | 6, _ => e886
  | 7, _ => e887
  | 8, _ => e888
  | 9, _ => e889
  | c + 10, h => absurd h (by omega)
theorem eb8_9 : ∀ c, c < 10 → runE (890 + c) = .yes
  | 0, _ => e890
  | 1, _ => e891
  | 2, _ => e892
  | 3, _ => e893
  | 4, _ => e894
  | 5, _ => e895
  | 6, _ => e896
  | 7, _ => e897
  | 8, _ => e898
  | 9, _ => e899
  | c + 10, h => absurd h (by omega)
theorem ea8 : ∀ b, b < 10 → ∀ c, c < 10 → runE (800 + 10 * b + c) = .yes
  | 0, _ => eb8_0
  | 1, _ => eb8_1
  | 2, _ => eb8_2
  | 3, _ => eb8_3
  | 4, _ => eb8_4
  | 5, _ => eb8_5
  | 6, _ => eb8_6
  | 7, _ => eb8_7
  | 8, _ => eb8_8
  | 9, _ => eb8_9
  | b + 10, h => absurd h (by omega)
end Go.Proofs.YtmebdcipijgcnaaGreatDoor.liftOtherq
