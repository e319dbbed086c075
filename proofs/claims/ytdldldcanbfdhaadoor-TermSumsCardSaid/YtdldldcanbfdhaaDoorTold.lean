/-
  strings.Join at two strings or more, by the shelf's contract. Conditions: none but those that the theorems print.
-/
import Derived.Test.YtdldldcanbfdhaaDoorShelf
import Derived.Test.YtdldldcanbfdhaaDoorRqU
namespace Go.Proofs.YtdldldcanbfdhaaDoor.told
open Go.Rn Go.RowKit Go.Lib Go.Proofs
theorem knownJ : known Tryd.prog 44 = true := by kernel_rfl
theorem below_old {w w' : World} (h : Go.RowKit.Below w.heap.size w w') : Old w w' := ⟨h.1, h.2, h.3, h.4, h.5⟩
theorem join : JoinC Tryd.prog 44 := ⟨knownJ, fun w B O c xs sep hB hc _ hN hcap hl => (Tryd.strings_Join B O c xs sep w hc hB (by omega) hcap (by omega)).mono fun _ _ h => ⟨h.1, below_old h.2⟩⟩
end Go.Proofs.YtdldldcanbfdhaaDoor.told
