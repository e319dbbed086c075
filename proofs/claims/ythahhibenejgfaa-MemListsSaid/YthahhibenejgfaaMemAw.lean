/-
  awake() of law 8 is true. Conditions: none.
-/
import Derived.Test.YthahhibenejgfaaTxtA
import Derived.Test.YthahhibenejgfaaRqN
import Derived.WalkKit
import Derived.ProofKit
import Derived.Lib.Hide
namespace Go.Proofs.Ythahhibenejgfaa.awM
open Go.Rn Go.RowKit Ythahhibenejgfaa.txt
theorem globs : Try.prog.globals.size ≤ 100 := of_decide_eq_true (by kernel_rfl)
theorem awake_run : call3 (fun _ _ _ => none) 0 (inL fsL) (fun _ _ => none) noKc 60 7 .nil he3 100 isT = .yes := by kernel_rfl
theorem awake_ok (w : World) : Calls Try.prog 7 #[] w fun e w' => e = .returned (.bool true) ∧ Below w.heap.size w w' :=
  (law_quick (ρ := fun _ => 0) no_ys (inL_ok fsL_ok) none_ok (n := 100) globs awake_run (vs := []) (fun _ => denC_nil.2 rfl) w).mono fun e w' h => ⟨h.1, h.2.below⟩
end Go.Proofs.Ythahhibenejgfaa.awM
