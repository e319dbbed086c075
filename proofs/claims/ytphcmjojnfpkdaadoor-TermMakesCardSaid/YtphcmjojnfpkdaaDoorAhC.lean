/-
  The order of a number and a read, as the evaluator is told of it. Conditions: those that the evaluator's own texts name.
-/
import Derived.Test.YtphcmjojnfpkdaaDoorAhB
import Derived.Test.YtphcmjojnfpkdaaDoorRqY
namespace Go.Proofs.YtphcmjojnfpkdaaDoor.ah
open Go.RowKit Go.Lib Go.Rn
def powL : List Value := [.int .u64 1, .int .u64 10, .int .u64 100, .int .u64 1000, .int .u64 10000, .int .u64 100000, .int .u64 1000000, .int .u64 10000000, .int .u64 100000000, .int .u64 1000000000, .int .u64 10000000000, .int .u64 100000000000, .int .u64 1000000000000, .int .u64 10000000000000, .int .u64 100000000000000, .int .u64 1000000000000000, .int .u64 10000000000000000, .int .u64 100000000000000000, .int .u64 1000000000000000000, .int .u64 10000000000000000000]
theorem powL_is : (Lib.pow10Tab.map fun z => Value.int .u64 z) = powL := by kernel_rfl
theorem gPow : Tryd.prog.globalNamed "internal/strconv.uint64pow10" = some 0 := by kernel_rfl
theorem tab_of {w : World} {el : TypeId} {fr : Nat × Nat} (h : w.heap[0]? = some (.cells powL.toArray el fr)) : Lib.TabIs Tryd.prog w "internal/strconv.uint64pow10" .u64 Lib.pow10Tab := by
  unfold Lib.TabIs World.var?
  rw [gPow, powL_is]
  simp [h]
theorem old_of {w w' : World} (h : Below w.heap.size w w') : Old w w' := ⟨h.os, h.tape, h.output, h.size, h.block⟩
theorem ahC : AhC Tryd.prog 15 1 2 0 powL := by
  intro w A O A' O' C C' el el' el0 fr0 v v' hG hA hA' hk hv hk' hv' h0 h1 h0' h1'
  have ht := tab_of hG
  refine ⟨(ahead_num A O A' O' C C' el el' v v' w hA hA' hk hv hk' hv' h0 h1 h0' h1' ht).mono ?_, (ahead_read A' O' A O C' C el' el v' v w hA' hA hk' hv' hk hv h0' h1' h0 h1 ht).mono ?_⟩
  · rintro e w' ⟨rfl, hb⟩
    exact ⟨rfl, old_of hb⟩
  · rintro e w' ⟨rfl, hb⟩
    exact ⟨rfl, old_of hb⟩
theorem powL_plain : ∀ v ∈ powL, PlainV v := by
  intro v hv
  simp only [powL, List.mem_cons, List.not_mem_nil, or_false] at hv
  rcases hv with rfl | rfl | rfl | rfl | rfl | rfl | rfl | rfl | rfl | rfl | rfl | rfl | rfl | rfl | rfl | rfl | rfl | rfl | rfl | rfl <;> trivial
theorem knownAh : known Tryd.prog 15 = true := by kernel_rfl
theorem gLt : 0 < Tryd.prog.globals.size := of_decide_eq_true (by kernel_rfl)
theorem ahT {ρ : Nat → Int} (h : ρ (1000000 + 0) = 20) : AhT Tryd.prog ρ 15 (.cons (.p 1 2) (.cons (.p 0 20) (chain powL))) := by
  intro kc kr g z tab e
  cases e
  exact ⟨gLt, ⟨by decide, h⟩, powL, rfl, fun m vs hd => chain_den powL_plain hd, ahC⟩
end Go.Proofs.YtphcmjojnfpkdaaDoor.ah
