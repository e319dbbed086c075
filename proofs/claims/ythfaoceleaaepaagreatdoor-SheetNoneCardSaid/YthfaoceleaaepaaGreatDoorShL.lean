/-
  What is said of one row of one number below 10 (exegesis/sheet.lists): its line. Conditions: none but those that the theorems print.
-/
import Derived.Test.YthfaoceleaaepaaGreatDoorShelb
import Derived.Test.YthfaoceleaaepaaGreatDoorRnZd
import Derived.WalkKit
import Derived.RowKitTokens
import Derived.Lib.Hide
namespace Go.Proofs.YthfaoceleaaepaaGreatDoor.sh
open Go.RowKit Go.Rn
set_option maxRecDepth 100000 in
theorem small_dig (z:Nat) (hz:z≤9) (w:World):Calls Tryz.prog 158 #[.int .i64 z] w fun e w'=>e=.returned (.string (strV [48 + z]))∧w'=w:=by
 have h:z=0 ∨ z=1 ∨ z=2 ∨ z=3 ∨ z=4 ∨ z=5 ∨ z=6 ∨ z=7 ∨ z=8 ∨ z=9:=by omega
 rcases h with rfl | rfl | rfl | rfl | rfl | rfl | rfl | rfl | rfl | rfl <;>
 ·go_enter Tryz.func158,Tryz.ntmps158
  go_wp2
  go_ret
  exact ⟨rfl,rfl⟩
set_option maxRecDepth 100000 in
theorem itoa_dig (z:Nat) (hz:z≤9) (w:World):Calls Tryz.prog 30 #[.int .i64 z] w fun e w'=>e=.returned (.string (strV [48 + z]))∧w'=w:=by
 have h:=small_dig z hz w
 have k0:(0:Int)≤(z:Int):=by omega
 have k1:(z:Int) < 100:=by omega
 have d0:decide ((0:Int)≤(z:Int))=true:=by simp
 have d1:decide ((z:Int) < 100)=true:=by simp; omega
 have f49:Calls Tryz.prog 49 #[.int .i64 z] w fun e w'=>e=.returned (.string (strV [48 + z]))∧w'=w:=by
  have f97:Calls Tryz.prog 97 #[.int .i64 z,.int .i64 10] w fun e w'=>e=.returned (.string (strV [48 + z]))∧w'=w:=by
   go_enter Tryz.func97,Tryz.ntmps97
   go_wp2_with (go_at_call 158; refine h.mono ?_)
   rintro e w1 ⟨rfl,rfl⟩
   go_wp2
   go_ret
   exact ⟨rfl,rfl⟩
  go_enter Tryz.func49,Tryz.ntmps49
  go_wp2_with (go_at_call 97; refine f97.mono ?_)
  rintro e w1 ⟨rfl,rfl⟩
  go_wp2
  go_ret
  exact ⟨rfl,rfl⟩
 go_enter Tryz.func30,Tryz.ntmps30
 go_wp2_with (go_at_call 49; refine f49.mono ?_)
 rintro e w1 ⟨rfl,rfl⟩
 go_wp2
 go_ret
 exact ⟨rfl,rfl⟩
end Go.Proofs.YthfaoceleaaepaaGreatDoor.sh
