/-
  slices.SortFunc of no elements. Conditions: none.
-/
import Derived.Test.YteghpophcnehgaaMzr
import Derived.Test.YteghpophcnehgaaMzu
import Derived.Handy
namespace Go.Proofs.Yteghpophcnehgaa
open Go.RowKit Mem
set_option maxRecDepth 20000 in
set_option maxHeartbeats 1600000 in
theorem ins_none (p:Option Addr) (cap:Nat) (w:World):Calls Try.prog 62 #[.slice p 0 cap,.int .i64 0,.int .i64 0,.func (.func 26) #[] #[]] w fun e w'=>e=.returned (.tuple #[])∧w'=w:=by
 go_enter Try.func62,Try.ntmps62
 go_wp2_with fail
 go_loop [8] (fun x=>x=.int .i64 1) (fun _=>0)
 case atStart=>rfl
 case round=>
  subst hrel
  go_wp2_with fail
  go_end0
  exact ⟨rfl,rfl⟩
set_option maxRecDepth 20000 in
set_option maxHeartbeats 3200000 in
theorem pdq_none (p:Option Addr) (cap:Nat) (lim:Int) (w:World):Calls Try.prog 42 #[.slice p 0 cap,.int .i64 0,.int .i64 0,.int .i64 lim,.func (.func 26) #[] #[]] w fun e w'=>e=.returned (.tuple #[])∧w'=w:=by
 have HI:=Lib.hid (ins_none p cap w)
 go_enter Try.func42,Try.ntmps42
 go_wp2_with fail
 refine wp_loop_rounds 1 ?_
 rw [rounds_succ]
 go_wp2_with fail
 refine HI.out.mono ?_
 rintro e w' ⟨rfl,rfl⟩
 go_wp2_with fail
 go_returns
 exact ⟨rfl,rfl⟩
set_option maxRecDepth 20000 in
set_option maxHeartbeats 1600000 in
theorem sort_none:SortN:=by
 intro p cap w
 have HP:=Lib.hid (fun lim=>pdq_none p cap lim w)
 have HB:=Lib.hid (Try.bits_Len 0 w (by decide) (by decide))
 go_enter Try.func25,Try.ntmps25
 go_wp2_with fail
 refine HB.out.mono ?_
 rintro e w' ⟨rfl,rfl⟩
 go_wp2_with fail
 refine (HP.out _).mono ?_
 rintro e w' ⟨rfl,rfl⟩
 go_wp2_with fail
 go_end0
 exact ⟨rfl,rfl⟩
theorem sort_c:SortC:=fun enc h1 cf hO blk off cap d w hcmp hH hblk hsz=>Try.slices_SortFunc enc h1 cf hO 26 #[] blk off cap d w (enters_of Try.func26 (by kernel_rfl) rfl) hcmp hH hblk hsz
end Go.Proofs.Yteghpophcnehgaa
