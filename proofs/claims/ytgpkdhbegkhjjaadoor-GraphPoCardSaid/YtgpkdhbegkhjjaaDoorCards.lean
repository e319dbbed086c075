/-
  DERIVED. GIVEN WITH THE SEED: THE CARDS: each row of YtgpkdhbegkhjjaaDoorRows.lean that lists a variable, with what it lists TIED to the program's text (the seventh form; the later family's looks); each row that meets fmt, with fmt's text TOLD by the authors' own Lean function (tested against real Go, not proved from fmt's source: count such statements apart). THE CARD IS WHAT COUNTS. Prove the row's statement (the work); the ties are given (YtgpkdhbegkhjjaaDoorTie.lean); close each card by the builder's one call (the guide's Derived/Test/ToyasCard.lean, 'card_holds'). Laid BY PROGRAM, IN A SANDBOX (cutbox-door.mjs). By AI agents, Wed Nov 11 2026. No macro, syntax, notation, axiom, sorry.
-/
import Derived.Test.YtgpkdhbegkhjjaaDoorRows
import GoSem.ClaimSeven
namespace Go.Proofs.YtgpkdhbegkhjjaaDoor
namespace Rows

/-- THE TIED CARD OF 'exegesislaw06.GraphPo'. -/
def graphPoCard : Claim7 := { stood := { row := graphPoRow, standIns := [], harness := (true, "7ce83b38e611b33c79863238011b180956b9d8b67c459ab77d960fb10855af91"), looks := false }, kinds := [], alts := [], laidByText := true, laidKinds := [.data], laidTests := true, laidLooks := .later }
def GraphPoCardSaid : Prop := Claim7.holds Tryd.pinned (.plain (OpenSpec.ofChange graphPoSpec)) graphPoCard

/-- THE SECOND FORM's CARD OF 'exegesislaw06.GraphPo'. -/
def graphPoUptoCard : Claim7 := { stood := { row := graphPoUptoRow, standIns := [], harness := (true, "7ce83b38e611b33c79863238011b180956b9d8b67c459ab77d960fb10855af91"), looks := false }, kinds := [], alts := [], laidByText := true, laidKinds := [.data], laidTests := true, laidLooks := .later }
def GraphPoUptoCardSaid : Prop := Claim7.holds Tryd.pinned (.plain (OpenSpec.upto graphPoSpec)) graphPoUptoCard
end Rows
end Go.Proofs.YtgpkdhbegkhjjaaDoor
