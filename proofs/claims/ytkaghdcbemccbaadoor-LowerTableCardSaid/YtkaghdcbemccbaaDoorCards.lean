/-
  DERIVED. GIVEN WITH THE SEED: THE CARDS: each row of YtkaghdcbemccbaaDoorRows.lean that lists a variable, with what it lists TIED to the program's text (the seventh form; the later family's looks); each row that meets fmt, with fmt's text TOLD by the authors' own Lean function (tested against real Go, not proved from fmt's source: count such statements apart). THE CARD IS WHAT COUNTS. Prove the row's statement (the work); the ties are given (YtkaghdcbemccbaaDoorTie.lean); close each card by the builder's one call (the guide's Derived/Test/ToyasCard.lean, 'card_holds'). Laid BY PROGRAM, IN A SANDBOX (cutbox-door.mjs). By AI agents, Wed Nov 11 2026. No macro, syntax, notation, axiom, sorry.
-/
import Derived.Test.YtkaghdcbemccbaaDoorRows
import GoSem.ClaimSeven
namespace Go.Proofs.YtkaghdcbemccbaaDoor
namespace Rows

/-- THE TIED CARD OF 'exegesislaw16.LowerTable'. -/
def lowerTableCard : Claim7 := { stood := { row := lowerTableRow, standIns := [], harness := (true, "8ef8304dc01f4c692e913a0df436a56c132d8adf4e88b1442564f19b5a0ff107"), looks := false }, kinds := [], alts := [], laidByText := true, laidKinds := [.data], laidTests := true, laidLooks := .later }
def LowerTableCardSaid : Prop := Claim7.holds Tryd.pinned (.plain (OpenSpec.ofChange lowerTableSpec)) lowerTableCard

/-- THE TIED CARD OF 'exegesislaw19.PpoFirst'. -/
def ppoFirstCard : Claim7 := { stood := { row := ppoFirstRow, standIns := [], harness := (true, "8ef8304dc01f4c692e913a0df436a56c132d8adf4e88b1442564f19b5a0ff107"), looks := false }, kinds := [], alts := [], laidByText := true, laidKinds := [.data], laidTests := true, laidLooks := .later }
def PpoFirstCardSaid : Prop := Claim7.holds Tryd.pinned (.plain (OpenSpec.ofChange ppoFirstSpec)) ppoFirstCard

/-- THE SECOND FORM's CARD OF 'exegesislaw16.LowerTable'. -/
def lowerTableUptoCard : Claim7 := { stood := { row := lowerTableUptoRow, standIns := [], harness := (true, "8ef8304dc01f4c692e913a0df436a56c132d8adf4e88b1442564f19b5a0ff107"), looks := false }, kinds := [], alts := [], laidByText := true, laidKinds := [.data], laidTests := true, laidLooks := .later }
def LowerTableUptoCardSaid : Prop := Claim7.holds Tryd.pinned (.plain (OpenSpec.upto lowerTableSpec)) lowerTableUptoCard

/-- THE SECOND FORM's CARD OF 'exegesislaw19.PpoFirst'. -/
def ppoFirstUptoCard : Claim7 := { stood := { row := ppoFirstUptoRow, standIns := [], harness := (true, "8ef8304dc01f4c692e913a0df436a56c132d8adf4e88b1442564f19b5a0ff107"), looks := false }, kinds := [], alts := [], laidByText := true, laidKinds := [.data], laidTests := true, laidLooks := .later }
def PpoFirstUptoCardSaid : Prop := Claim7.holds Tryd.pinned (.plain (OpenSpec.upto ppoFirstSpec)) ppoFirstUptoCard
end Rows
end Go.Proofs.YtkaghdcbemccbaaDoor
