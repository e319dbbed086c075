/-
  DERIVED. GIVEN WITH THE SEED: THE CARDS: each row of YthfaoceleaaepaaGreatDoorRows.lean that lists a variable, with what it lists TIED to the program's text (the seventh form; the later family's looks); each row that meets fmt, with fmt's text TOLD by the authors' own Lean function (tested against real Go, not proved from fmt's source: count such statements apart). THE CARD IS WHAT COUNTS. Prove the row's statement (the work); the ties are given (YthfaoceleaaepaaGreatDoorTie.lean); close each card by the builder's one call (the guide's Derived/Test/ToyasCard.lean, 'card_holds'). Laid BY PROGRAM, IN A SANDBOX (cutbox-door.mjs). By AI agents, Wed Nov 11 2026. No macro, syntax, notation, axiom, sorry.
-/
import Derived.Test.YthfaoceleaaepaaGreatDoorRows
import GoSem.ClaimSeven
namespace Go.Proofs.YthfaoceleaaepaaGreatDoor
namespace Rows

/-- THE TIED CARD OF 'exegesislaw28.SheetChecks'. -/
def sheetChecksCard : Claim7 := { stood := { row := sheetChecksRow, standIns := [], harness := (true, "d0a44bcc2d51046b1eb79cf0a300be52909cb73d527e9861682c320a2f9dea95"), looks := true }, kinds := [], alts := [], laidByText := true, laidKinds := [.sentinel, .sentinel, .data, .data, .data, .pinned, .data, .data, .sentinel, .sentinel, .sentinel, .handle], laidTests := true, laidLooks := .later }
def SheetChecksCardSaid : Prop := Claim7.holds Tryz.pinned (.plain (OpenSpec.ofChange sheetChecksSpec)) sheetChecksCard

/-- THE TIED CARD OF 'exegesislaw28.SheetNone'. -/
def sheetNoneCard : Claim7 := { stood := { row := sheetNoneRow, standIns := [], harness := (true, "d0a44bcc2d51046b1eb79cf0a300be52909cb73d527e9861682c320a2f9dea95"), looks := true }, kinds := [], alts := [], laidByText := true, laidKinds := [.sentinel, .sentinel, .data, .data, .data, .pinned, .data, .data, .sentinel, .sentinel, .sentinel, .handle], laidTests := true, laidLooks := .later }
def SheetNoneCardSaid : Prop := Claim7.holds Tryz.pinned (.plain (OpenSpec.ofChange sheetNoneSpec)) sheetNoneCard

/-- THE SECOND FORM's CARD OF 'exegesislaw28.SheetChecks'. -/
def sheetChecksUptoCard : Claim7 := { stood := { row := sheetChecksUptoRow, standIns := [], harness := (true, "d0a44bcc2d51046b1eb79cf0a300be52909cb73d527e9861682c320a2f9dea95"), looks := true }, kinds := [], alts := [], laidByText := true, laidKinds := [.sentinel, .sentinel, .data, .data, .data, .pinned, .data, .data, .sentinel, .sentinel, .sentinel, .handle], laidTests := true, laidLooks := .later }
def SheetChecksUptoCardSaid : Prop := Claim7.holds Tryz.pinned (.plain (OpenSpec.upto sheetChecksSpec)) sheetChecksUptoCard

/-- THE SECOND FORM's CARD OF 'exegesislaw28.SheetNone'. -/
def sheetNoneUptoCard : Claim7 := { stood := { row := sheetNoneUptoRow, standIns := [], harness := (true, "d0a44bcc2d51046b1eb79cf0a300be52909cb73d527e9861682c320a2f9dea95"), looks := true }, kinds := [], alts := [], laidByText := true, laidKinds := [.sentinel, .sentinel, .data, .data, .data, .pinned, .data, .data, .sentinel, .sentinel, .sentinel, .handle], laidTests := true, laidLooks := .later }
def SheetNoneUptoCardSaid : Prop := Claim7.holds Tryz.pinned (.plain (OpenSpec.upto sheetNoneSpec)) sheetNoneUptoCard
end Rows
end Go.Proofs.YthfaoceleaaepaaGreatDoor
