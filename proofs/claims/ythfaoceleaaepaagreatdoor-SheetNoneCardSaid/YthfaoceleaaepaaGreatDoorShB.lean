/-
  sync.Once: doSlow and Do, not yet done, around a call that is given.
-/
import Derived.Test.YthfaoceleaaepaaGreatDoorShA
namespace Go.Proofs.YthfaoceleaaepaaGreatDoor.sh
open Go.Conc.Locks
structure Leaves1 (b off:Nat) (w':World):Prop where
 c0:w'.cell? ⟨b,off,none⟩=some (.int .u32 0)
 c1:w'.cell? ⟨b,off + 1,none⟩=some (.int .i32 1)
 z0:w'.frozen? ⟨b,off,none⟩=false
 z1:w'.frozen? ⟨b,off + 1,none⟩=false
set_option maxRecDepth 100000 in
set_option maxHeartbeats 1600000 in
theorem slow_any (b off:Nat) (r:Value) (w:World) (Q:World→Prop)
  (h0:w.cell? ⟨b,off,none⟩=some (.int .u32 0)) (h1:w.cell? ⟨b,off + 1,none⟩=some (.int .i32 0))
  (f1:w.frozen? ⟨b,off + 1,none⟩=false)
  (hf:Calls Tryz.prog 35 #[r] (w.setCell ⟨b,off + 1,none⟩ (.int .i32 1)) fun e w'=>e=.returned (.tuple #[])∧Leaves1 b off w'∧Q w') :
  Calls Tryz.prog 66 #[.pointer (some ⟨b,off,none⟩),.func (.func 35) #[r] #[]] w fun e w'=>e=.returned (.tuple #[]) ∧
   ∃ w1,Leaves1 b off w1∧Q w1∧w'=(w1.drew.setCell ⟨b,off,none⟩ (.int .u32 1)).setCell ⟨b,off + 1,none⟩ (.int .i32 0):=by
 have hc0:(w.setCell ⟨b,off + 1,none⟩ (.int .i32 1)).cell? ⟨b,off,none⟩=some (.int .u32 0):=(World.cell?_setCell_other _ ⟨b,off + 1,none⟩ ⟨b,off,none⟩ _ (by simp)).trans h0
 have hnot:∀ (x:Bool) (w:World),(Op.unary .not (.bool x)).run Tryz.prog w=.ok (.bool (!x)) w:=fun _ _=>rfl
 go_enter_defers Tryz.func66,Tryz.ntmps66
 go_wp2_with (first | (go_at_call 109; refine (Go.MuLone.lock_free muLib ⟨b,off + 1,none⟩ _ (by go_simp) (by go_simp)).mono ?_; rintro e w' ⟨rfl,rfl⟩) | (go_at_call 65; refine (load_any ⟨b,off,none⟩ 0 _ hc0).mono ?_; rintro e w' ⟨rfl,rfl⟩) | (go_at_call 35; refine hf.mono ?_; rintro e w1 ⟨rfl,L1,q1⟩))
 refine leaves_cons (f:=111) (args:=#[.pointer (some ⟨b,off,none⟩),.bool true]) (by simp) (by simp [go_sem]) ?_
 refine (store_deferred ⟨b,off,none⟩ (.int .u32 0) .returning _ L1.c0 L1.z0).mono ?_
 rintro e u' w'' ⟨rfl,rfl,rfl⟩
 refine leaves_cons (f:=110) (args:=#[.pointer (some ⟨b,off + 1,none⟩)]) (by simp [settle]) (by simp [go_sem]) ?_
 refine (Go.MuLone.unlock_deferred muLib ⟨b,off + 1,none⟩ _ _ ?_ (by simp [L1.z1])).mono ?_
 ·refine (World.cell?_setCell_other _ ⟨b,off,none⟩ ⟨b,off + 1,none⟩ _ (by simp)).trans ?_
  rw [World.cell?_drew]
  exact L1.c1
 rintro e u' w'' ⟨rfl,rfl,rfl⟩
 simp [Leaves,settle,results,Tryz.results66]
 exact ⟨w1,L1,q1,rfl⟩
end Go.Proofs.YthfaoceleaaepaaGreatDoor.sh
