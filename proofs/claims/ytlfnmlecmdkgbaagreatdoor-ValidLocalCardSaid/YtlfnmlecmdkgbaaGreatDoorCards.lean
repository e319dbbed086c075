/-
  DERIVED. GIVEN WITH THE SEED: THE CARDS: each row of YtlfnmlecmdkgbaaGreatDoorRows.lean that lists a variable, with what it lists TIED to the program's text (the seventh form; the later family's looks); each row that meets fmt, with fmt's text TOLD by the authors' own Lean function (tested against real Go, not proved from fmt's source: count such statements apart). THE CARD IS WHAT COUNTS. Prove the row's statement (the work); the ties are given (YtlfnmlecmdkgbaaGreatDoorTie.lean); close each card by the builder's one call (the guide's Derived/Test/ToyasCard.lean, 'card_holds'). Laid BY PROGRAM, IN A SANDBOX (cutbox-door.mjs). By AI agents, Wed Nov 11 2026. No macro, syntax, notation, axiom, sorry.
-/
import Derived.Test.YtlfnmlecmdkgbaaGreatDoorRows
import GoSem.ClaimSeven
namespace Go.Proofs.YtlfnmlecmdkgbaaGreatDoor
namespace Rows

/-- THE TIED CARD OF 'exegesislaw26.ValidLocal'. -/
def validLocalCard : Claim7 := { stood := { row := validLocalRow, standIns := [], harness := (true, "066e5487b23b1bb1e3a749e66a66ecf8a972a34e596ae992d6eb8bd4dffaefc2"), looks := true }, kinds := [], alts := [], laidByText := true, laidKinds := [.data, .data, .data, .data, .sentinel, .sentinel, .sentinel], laidTests := true, laidLooks := .later }
def ValidLocalCardSaid : Prop := Claim7.holds Tryz.pinned (.plain (OpenSpec.ofChange validLocalSpec)) validLocalCard

/-- THE SECOND FORM's CARD OF 'exegesislaw26.ValidLocal'. -/
def validLocalUptoCard : Claim7 := { stood := { row := validLocalUptoRow, standIns := [], harness := (true, "066e5487b23b1bb1e3a749e66a66ecf8a972a34e596ae992d6eb8bd4dffaefc2"), looks := true }, kinds := [], alts := [], laidByText := true, laidKinds := [.data, .data, .data, .data, .sentinel, .sentinel, .sentinel], laidTests := true, laidLooks := .later }
def ValidLocalUptoCardSaid : Prop := Claim7.holds Tryz.pinned (.plain (OpenSpec.upto validLocalSpec)) validLocalUptoCard
end Rows
end Go.Proofs.YtlfnmlecmdkgbaaGreatDoor
