/-
  The law LiftOther at some of its cases: the run over the program ends in true. Conditions: none; these are closed facts.
-/
import Derived.Test.YtmebdcipijgcnaaGreatDoorLiftOtherA
namespace Go.Proofs.YtmebdcipijgcnaaGreatDoor.liftOtherq
open Go.Rn YtmebdcipijgcnaaGreatDoor.txt
set_option maxHeartbeats 400000000
theorem e900 : runE 900 = .yes := by kernel_rfl
theorem e901 : runE 901 = .yes := by kernel_rfl
theorem e902 : runE 902 = .yes := by kernel_rfl
theorem e903 : runE 903 = .yes := by kernel_rfl
theorem e904 : runE 904 = .yes := by kernel_rfl
theorem e905 : runE 905 = .yes := by kernel_rfl
theorem e906 : runE 906 = .yes := by kernel_rfl
theorem e907 : runE 907 = .yes := by kernel_rfl
theorem e908 : runE 908 = .yes := by kernel_rfl
theorem e909 : runE 909 = .yes := by kernel_rfl
theorem e910 : runE 910 = .yes := by kernel_rfl
theorem e911 : runE 911 = .yes := by kernel_rfl
theorem e912 : runE 912 = .yes := by kernel_rfl
theorem e913 : runE 913 = .yes := by kernel_rfl
theorem e914 : runE 914 = .yes := by kernel_rfl
theorem e915 : runE 915 = .yes := by kernel_rfl
theorem e916 : runE 916 = .yes := by kernel_rfl
theorem e917 : runE 917 = .yes := by kernel_rfl
theorem e918 : runE 918 = .yes := by kernel_rfl
theorem e919 : runE 919 = .yes := by kernel_rfl
theorem e920 : runE 920 = .yes := by kernel_rfl
theorem e921 : runE 921 = .yes := by kernel_rfl
theorem e922 : runE 922 = .yes := by kernel_rfl
theorem e923 : runE 923 = .yes := by kernel_rfl
theorem e924 : runE 924 = .yes := by kernel_rfl
theorem e925 : runE 925 = .yes := by kernel_rfl
theorem e926 : runE 926 = .yes := by kernel_rfl
theorem e927 : runE 927 = .yes := by kernel_rfl
theorem e928 : runE 928 = .yes := by kernel_rfl
theorem e929 : runE 929 = .yes := by kernel_rfl
theorem e930 : runE 930 = .yes := by kernel_rfl
theorem e931 : runE 931 = .yes := by kernel_rfl
theorem e932 : runE 932 = .yes := by kernel_rfl
theorem e933 : runE 933 = .yes := by kernel_rfl
theorem e934 : runE 934 = .yes := by kernel_rfl
theorem e935 : runE 935 = .yes := by kernel_rfl
theorem e936 : runE 936 = .yes := by kernel_rfl
theorem e937 : runE 937 = .yes := by kernel_rfl
theorem e938 : runE 938 = .yes := by kernel_rfl
theorem e939 : runE 939 = .yes := by kernel_rfl
theorem e940 : runE 940 = .yes := by kernel_rfl
theorem e941 : runE 941 = .yes := by kernel_rfl
theorem e942 : runE 942 = .yes := by kernel_rfl
theorem e943 : runE 943 = .yes := by kernel_rfl
theorem e944 : runE 944 = .yes := by kernel_rfl
theorem e945 : runE 945 = .yes := by kernel_rfl
theorem e946 : runE 946 = .yes := by kernel_rfl
theorem e947 : runE 947 = .yes := by kernel_rfl
theorem e948 : runE 948 = .yes := by kernel_rfl
theorem e949 : runE 949 = .yes := by kernel_rfl
theorem e950 : runE 950 = .yes := by kernel_rfl
theorem e951 : runE 951 = .yes := by kernel_rfl
theorem e952 : runE 952 = .yes := by kernel_rfl
theorem e953 : runE 953 = .yes := by kernel_rfl
theorem e954 : runE 954 = .yes := by kernel_rfl
theorem e955 : runE 955 = .yes := by kernel_rfl
theorem e956 : runE 956 = .yes := by kernel_rfl
theorem e957 : runE 957 = .yes := by kernel_rfl
theorem e958 : runE 958 = .yes := by kernel_rfl
theorem e959 : runE 959 = .yes := by kernel_rfl
theorem e960 : runE 960 = .yes := by kernel_rfl
theorem e961 : runE 961 = .yes := by kernel_rfl
theorem e962 : runE 962 = .yes := by kernel_rfl
theorem e963 : runE 963 = .yes := by kernel_rfl
theorem e964 : runE 964 = .yes := by kernel_rfl
theorem e965 : runE 965 = .yes := by kernel_rfl
theorem e966 : runE 966 = .yes := by kernel_rfl
theorem e967 : runE 967 = .yes := by kernel_rfl
theorem e968 : runE 968 = .yes := by kernel_rfl
theorem e969 : runE 969 = .yes := by kernel_rfl
theorem e970 : runE 970 = .yes := by kernel_rfl
theorem e971 : runE 971 = .yes := by kernel_rfl
theorem e972 : runE 972 = .yes := by kernel_rfl
theorem e973 : runE 973 = .yes := by kernel_rfl
theorem e974 : runE 974 = .yes := by kernel_rfl
theorem e975 : runE 975 = .yes := by kernel_rfl
theorem e976 : runE 976 = .yes := by kernel_rfl
theorem e977 : runE 977 = .yes := by kernel_rfl
theorem e978 : runE 978 = .yes := by kernel_rfl
theorem e979 : runE 979 = .yes := by kernel_rfl
theorem e980 : runE 980 = .yes := by kernel_rfl
theorem e981 : runE 981 = .yes := by kernel_rfl
theorem e982 : runE 982 = .yes := by kernel_rfl
theorem e983 : runE 983 = .yes := by kernel_rfl
theorem e984 : runE 984 = .yes := by kernel_rfl
theorem e985 : runE 985 = .yes := by kernel_rfl
theorem e986 : runE 986 = .yes := by kernel_rfl
theorem e987 : runE 987 = .yes := by kernel_rfl
theorem e988 : runE 988 = .yes := by kernel_rfl
theorem e989 : runE 989 = .yes := by kernel_rfl
theorem e990 : runE 990 = .yes := by kernel_rfl
theorem e991 : runE 991 = .yes := by kernel_rfl
theorem e992 : runE 992 = .yes := by kernel_rfl
theorem e993 : runE 993 = .yes := by kernel_rfl
theorem e994 : runE 994 = .yes := by kernel_rfl
theorem e995 : runE 995 = .yes := by kernel_rfl
theorem e996 : runE 996 = .yes := by kernel_rfl
theorem e997 : runE 997 = .yes := by kernel_rfl
theorem e998 : runE 998 = .yes := by kernel_rfl
theorem e999 : runE 999 = .yes := by kernel_rfl
theorem eb9_0 : ∀ c, c < 10 → runE (900 + c) = .yes
  | 0, _ => e900
  | 1, _ => e901
  | 2, _ => e902
  | 3, _ => e903
  | 4, _ => e904
  | 5, _ => e905
  | 6, _ => e906
  | 7, _ => e907
  | 8, _ => e908
  | 9, _ => e909
  | c + 10, h => absurd h (by omega)
theorem eb9_1 : ∀ c, c < 10 → runE (910 + c) = .yes
  | 0, _ => e910
  | 1, _ => e911
  | 2, _ => e912
  | 3, _ => e913
  | 4, _ => e914
  | 5, _ => e915
  | 6, _ => e916
  | 7, _ => e917
  | 8, _ => e918
  | 9, _ => e919
  | c + 10, h => absurd h (by omega)
theorem eb9_2 : ∀ c, c < 10 → runE (920 + c) = .yes
  | 0, _ => e920
  | 1, _ => e921
  | 2, _ => e922
  | 3, _ => e923
  | 4, _ => e924
  | 5, _ => e925
  | 6, _ => e926
  | 7, _ => e927
  | 8, _ => e928
  | 9, _ => e929
  | c + 10, h => absurd h (by omega)
theorem eb9_3 : ∀ c, c < 10 → runE (930 + c) = .yes
  | 0, _ => e930
  | 1, _ => e931
  | 2, _ => e932
  | 3, _ => e933
  | 4, _ => e934
  | 5, _ => e935
  | 6, _ => e936
  | 7, _ => e937
  | 8, _ => e938
  | 9, _ => e939
  | c + 10, h => absurd h (by omega)
theorem eb9_4 : ∀ c, c < 10 → runE (940 + c) = .yes
  | 0, _ => e940
  | 1, _ => e941
  | 2, _ => e942
  | 3, _ => e943
  | 4, _ => e944
  | 5, _ => e945
  | 6, _ => e946
  | 7, _ => e947
  | 8, _ => e948
  | 9, _ => e949
  | c + 10, h => absurd h (by omega)
theorem eb9_5 : ∀ c, c < 10 → runE (950 + c) = .yes
  | 0, _ => e950
  | 1, _ => e951
  | 2, _ => e952
  | 3, _ => e953
  | 4, _ => e954
  | 5, _ => e955
  | 6, _ => e956
  | 7, _ => e957
  | 8, _ => e958
  | 9, _ => e959
  | c + 10, h => absurd h (by omega)
theorem eb9_6 : ∀ c, c < 10 → runE (960 + c) = .yes
  | 0, _ => e960
  | 1, _ => e961
  | 2, _ => e962
  | 3, _ => e963
  | 4, _ => e964
  | 5, _ => e965
  | 6, _ => e966
  | 7, _ => e967
  | 8, _ => e968
  | 9, _ => e969
  | c + 10, h => absurd h (by omega)
theorem eb9_7 : ∀ c, c < 10 → runE (970 + c) = .yes
  | 0, _ => e970
  | 1, _ => e971
  | 2, _ => e972
  | 3, _ => e973
  | 4, _ => e974
  | 5, _ => e975
  | 6, _ => e976
  | 7, _ => e977
  | 8, _ => e978
  | 9, _ => e979
  | c + 10, h => absurd h (by omega)
theorem eb9_8 : ∀ c, c < 10 → runE (980 + c) = .yes
  | 0, _ => e980
  | 1, _ => e981
  | 2, _ => e982
  | 3, _ => e983
  | 4, _ => e984
  | 5, _ => e985
  | 6, _ => e986
  | 7, _ => e987
  | 8, _ => e988
  | 9, _ => e989
  | c + 10, h => absurd h (by omega)
theorem eb9_9 : ∀ c, c < 10 → runE (990 + c) = .yes
  | 0, _ => e990
  | 1, _ => e991
  | 2, _ => e992
  | 3, _ => e993
  | 4, _ => e994
  | 5, _ => e995
  | 6, _ => e996
  | 7, _ => e997
  | 8, _ => e998
  | 9, _ => e999
  | c + 10, h => absurd h (by omega)
theorem ea9 : ∀ b, b < 10 → ∀ c, c < 10 → runE (900 + 10 * b + c) = .yes
  | 0, _ => eb9_0
  | 1, _ => eb9_1
  | 2, _ => eb9_2
  | 3, _ => eb9_3
  | 4, _ => eb9_4
  | 5, _ => eb9_5
  | 6, _ => eb9_6
  | 7, _ => eb9_7
  | 8, _ => eb9_8
  | 9, _ => eb9_9
  | b + 10, h => absurd h (by omega)
end Go.Proofs.YtmebdcipijgcnaaGreatDoor.liftOtherq
