/-
  sync.Once's slow road and its Do, one goroutine, not yet done: for any function whose call leaves the Once's cells alone.
-/
import Derived.Test.YthfaoceleaaepaaGreatDoorProg
import Derived.Conc.MuLone
import Derived.Tactics
import Derived.Tactics2
import Derived.Defers
import Derived.Laws.Pointers
import Derived.Laws.LoneSync
import Derived.Laws.NewBlocks
import Derived.RegionTactic
import Derived.RegionCalls
import Derived.ChangeAlike
namespace Go.Proofs.YthfaoceleaaepaaGreatDoor.sh
open Go.Conc.Locks
abbrev muLink:MuLink:={ lock:=109,unlock:=110,ilock:=169,iunlock:=170,lockSlow:=267,unlockSlow:=270,disable:=263,enable:=265,acquire:=266,relMerge:=268,cas32:=264,add32:=269,tMutex:=88,tIMutex:=86,tPMutex:=300,tPIMutex:=417,tPI32:=419,tUP:=333,tNoCopy:=80,tU32:=82 }
theorem muLib : MuLib Tryz.prog muLink :=
  ⟨Tryz.func109, Tryz.func110, Tryz.func169, Tryz.func170, Tryz.func263, Tryz.func265, Tryz.func266, Tryz.func268, Tryz.func264, Tryz.func269,
   Tryz.underlying86, Tryz.runUnderlying86, Tryz.sizeOf86, Tryz.isAgg86, Tryz.zeroValue86,
   Tryz.underlying88, Tryz.runUnderlying88, Tryz.sizeOf88, Tryz.isAgg88, Tryz.zeroValue88,
   Tryz.underlying300, Tryz.runUnderlying300, Tryz.sizeOf300, Tryz.isAgg300, Tryz.zeroValue300,
   Tryz.underlying417, Tryz.runUnderlying417, Tryz.sizeOf417, Tryz.isAgg417, Tryz.zeroValue417,
   Tryz.underlying419, Tryz.runUnderlying419, Tryz.sizeOf419, Tryz.isAgg419, Tryz.zeroValue419,
   Tryz.underlying333, Tryz.runUnderlying333, Tryz.sizeOf333, Tryz.isAgg333, Tryz.zeroValue333,
   Tryz.underlying80, Tryz.runUnderlying80, Tryz.sizeOf80, Tryz.isAgg80, Tryz.zeroValue80,
   Tryz.underlying21, Tryz.runUnderlying21, Tryz.sizeOf21, Tryz.isAgg21, Tryz.zeroValue21, by kernel_rfl⟩
set_option maxRecDepth 100000 in
theorem store_deferred (a:Addr) (x:Value) (u:FrameMode) (w:World) (hc:w.cell? a=some x) (hz:w.frozen? a=false) :
  CallsD Tryz.prog 111 #[.pointer (some a),.bool true] u w fun e u' w'=>u'=u∧(e=.returned (.tuple #[])∧w'=w.drew.setCell a (.int .u32 1)):=by
 have hc':w.drew.cell? a=some x:=by go_simp
 have hz':w.drew.frozen? a=false:=by go_simp
 have hst:=run_call_store (P:=Tryz.prog) Tryz.func171 (by kernel_rfl) (by kernel_rfl) (by kernel_rfl) (by kernel_rfl) (k:=.u32) (y:=1) hc' hz'
 go_enter_d Tryz.func111,Tryz.ntmps111
 go_wp2
 go_region_calls
 all_goals (go_end0; exact ⟨rfl,rfl⟩)
set_option maxRecDepth 100000 in
theorem load_any (a:Addr) (v:Int) (w:World) (h:w.cell? a=some (.int .u32 v)) :
  Calls Tryz.prog 65 #[.pointer (some a)] w fun e w'=>e=.returned (.bool (v != 0))∧w'=w:=by
 have hl:=run_call_load (P:=Tryz.prog) Tryz.func108 (by kernel_rfl) (by kernel_rfl) (by kernel_rfl) .u32 (by kernel_rfl) h
 go_enter Tryz.func65,Tryz.ntmps65
 go_wp2
 go_ret
 exact ⟨rfl,rfl⟩
end Go.Proofs.YthfaoceleaaepaaGreatDoor.sh
