/-
  sync.Once.Do, not yet done, and buildOnce around build.
-/
import Derived.Test.YthfaoceleaaepaaGreatDoorShB
namespace Go.Proofs.YthfaoceleaaepaaGreatDoor.sh
set_option maxRecDepth 100000 in
set_option maxHeartbeats 1600000 in
theorem do_any (b off:Nat) (r:Value) (w:World) (Q:World→Prop)
  (h0:w.cell? ⟨b,off,none⟩=some (.int .u32 0)) (h1:w.cell? ⟨b,off + 1,none⟩=some (.int .i32 0))
  (f1:w.frozen? ⟨b,off + 1,none⟩=false)
  (hf:Calls Tryz.prog 35 #[r] (w.setCell ⟨b,off + 1,none⟩ (.int .i32 1)) fun e w'=>e=.returned (.tuple #[])∧Leaves1 b off w'∧Q w') :
  Calls Tryz.prog 34 #[.pointer (some ⟨b,off,none⟩),.func (.func 35) #[r] #[]] w fun e w'=>e=.returned (.tuple #[]) ∧
   ∃ w1,Leaves1 b off w1∧Q w1∧w'=(w1.drew.setCell ⟨b,off,none⟩ (.int .u32 1)).setCell ⟨b,off + 1,none⟩ (.int .i32 0):=by
 have hnot:∀ (x:Bool) (w:World),(Op.unary .not (.bool x)).run Tryz.prog w=.ok (.bool (!x)) w:=fun _ _=>rfl
 go_enter Tryz.func34,Tryz.ntmps34
 go_wp2_with (first | (go_at_call 66; refine (slow_any b off r _ Q h0 h1 f1 hf).mono ?_; rintro e w' ⟨rfl,w1,L1,q1,rfl⟩) | (go_at_call 65; refine (load_any ⟨b,off,none⟩ 0 _ h0).mono ?_; rintro e w' ⟨rfl,rfl⟩))
 go_end0
 exact ⟨rfl,w1,L1,q1,rfl⟩
end Go.Proofs.YthfaoceleaaepaaGreatDoor.sh
