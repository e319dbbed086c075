/-
  The law SheetNone by the evaluator: each of its cases ends in true, over the tables and the errors that lie in their variables. Conditions: none but those that the theorems print.
-/
import Derived.Test.YthfaoceleaaepaaGreatDoorTynA
import Derived.Test.YthfaoceleaaepaaGreatDoorRqQ
import Derived.Test.YthfaoceleaaepaaGreatDoorRqY
import Derived.Test.YthfaoceleaaepaaGreatDoorShM
import Derived.Test.YthfaoceleaaepaaGreatDoorTold
import Derived.Test.YthfaoceleaaepaaGreatDoorShK
import Derived.Test.YthfaoceleaaepaaGreatDoorRnZf
import Derived.WalkKit
import Derived.ProofKit
import Derived.Lib.Hide
namespace Go.Proofs.YthfaoceleaaepaaGreatDoor.sheetNoneq
open Go.Rn Go.RowKit YthfaoceleaaepaaGreatDoor.txt
noncomputable def kv0 : List Value := [.int .i64 0, .int .i64 0, .bool false, .bool false, .bool false, .int .i64 0, .bool false, .int .i64 0, .int .i64 3, .int .i64 1, .bool true, .bool true, .bool false, .int .i64 0, .bool false, .int .i64 1, .int .i64 5, .int .i64 1, .bool false, .bool true, .bool false, .int .i64 9, .bool false, .int .i64 1, .int .i64 30, .int .i64 1, .bool false, .bool false, .bool false, .int .i64 0, .bool false, .int .i64 1, .int .i64 3, .int .i64 5, .bool true, .bool true, .bool false, .int .i64 7, .bool true, .int .i64 2, .int .i64 1, .int .i64 1, .bool true, .bool false, .bool false, .int .i64 9, .bool false, .int .i64 0, .int .i64 1, .int .i64 1, .bool false, .bool false, .bool true, .int .i64 9, .bool false, .int .i64 0]
noncomputable def kv1 : List Value := [.int .u64 1, .int .u64 10, .int .u64 100, .int .u64 1000, .int .u64 10000, .int .u64 100000, .int .u64 1000000, .int .u64 10000000, .int .u64 100000000, .int .u64 1000000000, .int .u64 10000000000, .int .u64 100000000000, .int .u64 1000000000000, .int .u64 10000000000000, .int .u64 100000000000000, .int .u64 1000000000000000, .int .u64 10000000000000000, .int .u64 100000000000000000, .int .u64 1000000000000000000, .int .u64 10000000000000000000]
noncomputable def kv2 : List Value := [.int .u8 0, .int .u8 1, .int .u8 56, .int .u8 2, .int .u8 57, .int .u8 49, .int .u8 28, .int .u8 3, .int .u8 61, .int .u8 58, .int .u8 42, .int .u8 50, .int .u8 38, .int .u8 29, .int .u8 17, .int .u8 4, .int .u8 62, .int .u8 47, .int .u8 59, .int .u8 36, .int .u8 45, .int .u8 43, .int .u8 51, .int .u8 22, .int .u8 53, .int .u8 39, .int .u8 33, .int .u8 30, .int .u8 24, .int .u8 18, .int .u8 12, .int .u8 5, .int .u8 63, .int .u8 55, .int .u8 48, .int .u8 27, .int .u8 60, .int .u8 41, .int .u8 37, .int .u8 16, .int .u8 46, .int .u8 35, .int .u8 44, .int .u8 21, .int .u8 52, .int .u8 32, .int .u8 23, .int .u8 11, .int .u8 54, .int .u8 26, .int .u8 40, .int .u8 15, .int .u8 34, .int .u8 20, .int .u8 31, .int .u8 10, .int .u8 25, .int .u8 14, .int .u8 19, .int .u8 9, .int .u8 13, .int .u8 8, .int .u8 7, .int .u8 6]
noncomputable def rows : VRows := [(5, chain kv1, 20), (8, chain kv0, 56), (1, .cons (errV 621 97) .nil, 1), (2, .cons (errV 621 98) .nil, 1), (3, .cons (errV 621 99) .nil, 1), (6, .cons (ifU 621) .nil, 1), (9, chain kv2, 64)]
noncomputable def kc : Kc := kcOr (kcRow 12 sh.rowF) (kcLst 41)
noncomputable def tab (k0 : Nat) : List (Nat × Nat × Nat) := [(0, 8, k0)]
noncomputable def orc (k0 : Nat) : Nat → RV → Option RV := orO (placeO 5 (tab k0)) (orO (sh.speltO 16) (orO (orO (cntO 176) (idxO 50)) (atoiO 162)))
noncomputable def run (k0 : Nat) : A := startV (errRows rows) he3 fun h => call3 (ysR []) 100 (inL fsL) (orc k0) kc 60 4 (.cons (.y .i64 (.v 0)) .nil) h 100 isT
end Go.Proofs.YthfaoceleaaepaaGreatDoor.sheetNoneq
