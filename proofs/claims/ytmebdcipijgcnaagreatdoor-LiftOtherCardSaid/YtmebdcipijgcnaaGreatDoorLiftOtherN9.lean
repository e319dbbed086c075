/-
  The law LiftOther at some of its cases: the run over the program ends in true. Conditions: none; these are closed facts.
-/
import Derived.Test.YtmebdcipijgcnaaGreatDoorLiftOtherA
namespace Go.Proofs.YtmebdcipijgcnaaGreatDoor.liftOtherq
open Go.Rn YtmebdcipijgcnaaGreatDoor.txt
set_option maxHeartbeats 400000000
theorem n900 : run 900 = .yes := by kernel_rfl
theorem n901 : run 901 = .yes := by kernel_rfl
theorem n902 : run 902 = .yes := by kernel_rfl
theorem n903 : run 903 = .yes := by kernel_rfl
theorem n904 : run 904 = .yes := by kernel_rfl
theorem n905 : run 905 = .yes := by kernel_rfl
theorem n906 : run 906 = .yes := by kernel_rfl
theorem n907 : run 907 = .yes := by kernel_rfl
theorem n908 : run 908 = .yes := by kernel_rfl
theorem n909 : run 909 = .yes := by kernel_rfl
theorem n910 : run 910 = .yes := by kernel_rfl
theorem n911 : run 911 = .yes := by kernel_rfl
theorem n912 : run 912 = .yes := by kernel_rfl
theorem n913 : run 913 = .yes := by kernel_rfl
theorem n914 : run 914 = .yes := by kernel_rfl
theorem n915 : run 915 = .yes := by kernel_rfl
theorem n916 : run 916 = .yes := by kernel_rfl
theorem n917 : run 917 = .yes := by kernel_rfl
theorem n918 : run 918 = .yes := by kernel_rfl
theorem n919 : run 919 = .yes := by kernel_rfl
theorem n920 : run 920 = .yes := by kernel_rfl
theorem n921 : run 921 = .yes := by kernel_rfl
theorem n922 : run 922 = .yes := by kernel_rfl
theorem n923 : run 923 = .yes := by kernel_rfl
theorem n924 : run 924 = .yes := by kernel_rfl
theorem n925 : run 925 = .yes := by kernel_rfl
theorem n926 : run 926 = .yes := by kernel_rfl
theorem n927 : run 927 = .yes := by kernel_rfl
theorem n928 : run 928 = .yes := by kernel_rfl
theorem n929 : run 929 = .yes := by kernel_rfl
theorem n930 : run 930 = .yes := by kernel_rfl
theorem n931 : run 931 = .yes := by kernel_rfl
theorem n932 : run 932 = .yes := by kernel_rfl
theorem n933 : run 933 = .yes := by kernel_rfl
theorem n934 : run 934 = .yes := by kernel_rfl
theorem n935 : run 935 = .yes := by kernel_rfl
theorem n936 : run 936 = .yes := by kernel_rfl
theorem n937 : run 937 = .yes := by kernel_rfl
theorem n938 : run 938 = .yes := by kernel_rfl
theorem n939 : run 939 = .yes := by kernel_rfl
theorem n940 : run 940 = .yes := by kernel_rfl
theorem n941 : run 941 = .yes := by kernel_rfl
theorem n942 : run 942 = .yes := by kernel_rfl
theorem n943 : run 943 = .yes := by kernel_rfl
theorem n944 : run 944 = .yes := by kernel_rfl
theorem n945 : run 945 = .yes := by kernel_rfl
theorem n946 : run 946 = .yes := by kernel_rfl
theorem n947 : run 947 = .yes := by kernel_rfl
theorem n948 : run 948 = .yes := by kernel_rfl
theorem n949 : run 949 = .yes := by kernel_rfl
theorem n950 : run 950 = .yes := by kernel_rfl
theorem n951 : run 951 = .yes := by kernel_rfl
theorem n952 : run 952 = .yes := by kernel_rfl
theorem n953 : run 953 = .yes := by kernel_rfl
theorem n954 : run 954 = .yes := by kernel_rfl
theorem n955 : run 955 = .yes := by kernel_rfl
theorem n956 : run 956 = .yes := by kernel_rfl
theorem n957 : run 957 = .yes := by kernel_rfl
theorem n958 : run 958 = .yes := by kernel_rfl
theorem n959 : run 959 = .yes := by kernel_rfl
theorem n960 : run 960 = .yes := by kernel_rfl
theorem n961 : run 961 = .yes := by kernel_rfl
theorem n962 : run 962 = .yes := by kernel_rfl
theorem n963 : run 963 = .yes := by kernel_rfl
theorem n964 : run 964 = .yes := by kernel_rfl
theorem n965 : run 965 = .yes := by kernel_rfl
theorem n966 : run 966 = .yes := by kernel_rfl
theorem n967 : run 967 = .yes := by kernel_rfl
theorem n968 : run 968 = .yes := by kernel_rfl
theorem n969 : run 969 = .yes := by kernel_rfl
theorem n970 : run 970 = .yes := by kernel_rfl
theorem n971 : run 971 = .yes := by kernel_rfl
theorem n972 : run 972 = .yes := by kernel_rfl
theorem n973 : run 973 = .yes := by kernel_rfl
theorem n974 : run 974 = .yes := by kernel_rfl
theorem n975 : run 975 = .yes := by kernel_rfl
theorem n976 : run 976 = .yes := by kernel_rfl
theorem n977 : run 977 = .yes := by kernel_rfl
theorem n978 : run 978 = .yes := by kernel_rfl
theorem n979 : run 979 = .yes := by kernel_rfl
theorem n980 : run 980 = .yes := by kernel_rfl
theorem n981 : run 981 = .yes := by kernel_rfl
theorem n982 : run 982 = .yes := by kernel_rfl
theorem n983 : run 983 = .yes := by kernel_rfl
theorem n984 : run 984 = .yes := by kernel_rfl
theorem n985 : run 985 = .yes := by kernel_rfl
theorem n986 : run 986 = .yes := by kernel_rfl
theorem n987 : run 987 = .yes := by kernel_rfl
theorem n988 : run 988 = .yes := by kernel_rfl
theorem n989 : run 989 = .yes := by kernel_rfl
theorem n990 : run 990 = .yes := by kernel_rfl
theorem n991 : run 991 = .yes := by kernel_rfl
theorem n992 : run 992 = .yes := by kernel_rfl
theorem n993 : run 993 = .yes := by kernel_rfl
theorem n994 : run 994 = .yes := by kernel_rfl
theorem n995 : run 995 = .yes := by kernel_rfl
theorem n996 : run 996 = .yes := by kernel_rfl
theorem n997 : run 997 = .yes := by kernel_rfl
theorem n998 : run 998 = .yes := by kernel_rfl
theorem n999 : run 999 = .yes := by kernel_rfl
theorem nb9_0 : ∀ c, c < 10 → run (900 + c) = .yes
  | 0, _ => n900
  | 1, _ => n901
  | 2, _ => n902
  | 3, _ => n903
  | 4, _ => n904
  | 5, _ => n905
  | 6, _ => n906
  | 7, _ => n907
  | 8, _ => n908
  | 9, _ => n909
  | c + 10, h => absurd h (by omega)
theorem nb9_1 : ∀ c, c < 10 → run (910 + c) = .yes
  | 0, _ => n910
  | 1, _ => n911
  | 2, _ => n912
  | 3, _ => n913
  | 4, _ => n914
  | 5, _ => n915
  | 6, _ => n916
  | 7, _ => n917
  | 8, _ => n918
  | 9, _ => n919
  | c + 10, h => absurd h (by omega)
theorem nb9_2 : ∀ c, c < 10 → run (920 + c) = .yes
  | 0, _ => n920
  | 1, _ => n921
  | 2, _ => n922
  | 3, _ => n923
  | 4, _ => n924
  | 5, _ => n925
  | 6, _ => n926
  | 7, _ => n927
  | 8, _ => n928
  | 9, _ => n929
  | c + 10, h => absurd h (by omega)
theorem nb9_3 : ∀ c, c < 10 → run (930 + c) = .yes
  | 0, _ => n930
  | 1, _ => n931
  | 2, _ => n932
  | 3, _ => n933
  | 4, _ => n934
  | 5, _ => n935
  | 6, _ => n936
  | 7, _ => n937
  | 8, _ => n938
  | 9, _ => n939
  | c + 10, h => absurd h (by omega)
theorem nb9_4 : ∀ c, c < 10 → run (940 + c) = .yes
  | 0, _ => n940
  | 1, _ => n941
  | 2, _ => n942
  | 3, _ => n943
  | 4, _ => n944
  | 5, _ => n945
  | 6, _ => n946
  | 7, _ => n947
  | 8, _ => n948
  | 9, _ => n949
  | c + 10, h => absurd h (by omega)
theorem nb9_5 : ∀ c, c < 10 → run (950 + c) = .yes
  | 0, _ => n950
  | 1, _ => n951
  | 2, _ => n952
  | 3, _ => n953
  | 4, _ => n954
  | 5, _ => n955
  | 6, _ => n956
  | 7, _ => n957
  | 8, _ => n958
  | 9, _ => n959
  | c + 10, h => absurd h (by omega)
theorem nb9_6 : ∀ c, c < 10 → run (960 + c) = .yes
  | 0, _ => n960
  | 1, _ => n961
  | 2, _ => n962
  | 3, _ => n963
  | 4, _ => n964
  | 5, _ => n965
  | 6, _ => n966
  | 7, _ => n967
  | 8, _ => n968
  | 9, _ => n969
  | c + 10, h => absurd h (by omega)
theorem nb9_7 : ∀ c, c < 10 → run (970 + c) = .yes
  | 0, _ => n970
  | 1, _ => n971
  | 2, _ => n972
  | 3, _ => n973
  | 4, _ => n974
  | 5, _ => n975
  | 6, _ => n976
  | 7, _ => n977
  | 8, _ => n978
  | 9, _ => n979
  | c + 10, h => absurd h (by omega)
theorem nb9_8 : ∀ c, c < 10 → run (980 + c) = .yes
  | 0, _ => n980
  | 1, _ => n981
  | 2, _ => n982
  | 3, _ => n983
  | 4, _ => n984
  | 5, _ => n985
  | 6, _ => n986
  | 7, _ => n987
  | 8, _ => n988
  | 9, _ => n989
  | c + 10, h => absurd h (by omega)
theorem nb9_9 : ∀ c, c < 10 → run (990 + c) = .yes
  | 0, _ => n990
  | 1, _ => n991
  | 2, _ => n992
  | 3, _ => n993
  | 4, _ => n994
  | 5, _ => n995
  | 6, _ => n996
  | 7, _ => n997
  | 8, _ => n998
  | 9, _ => n999
  | c + 10, h => absurd h (by omega)
theorem na9 : ∀ b, b < 10 → ∀ c, c < 10 → run (900 + 10 * b + c) = .yes
  | 0, _ => nb9_0
  | 1, _ => nb9_1
  | 2, _ => nb9_2
  | 3, _ => nb9_3
  | 4, _ => nb9_4
  | 5, _ => nb9_5
  | 6, _ => nb9_6
  | 7, _ => nb9_7
  | 8, _ => nb9_8
  | 9, _ => nb9_9
  | b + 10, h => absurd h (by omega)
end Go.Proofs.YtmebdcipijgcnaaGreatDoor.liftOtherq
