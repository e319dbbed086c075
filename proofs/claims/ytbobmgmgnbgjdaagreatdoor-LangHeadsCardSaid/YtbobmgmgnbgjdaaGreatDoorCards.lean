/-
  DERIVED. GIVEN WITH THE SEED: THE CARDS: each row of YtbobmgmgnbgjdaaGreatDoorRows.lean that lists a variable, with what it lists TIED to the program's text (the seventh form; the later family's looks); each row that meets fmt, with fmt's text TOLD by the authors' own Lean function (tested against real Go, not proved from fmt's source: count such statements apart). THE CARD IS WHAT COUNTS. Prove the row's statement (the work); the ties are given (YtbobmgmgnbgjdaaGreatDoorTie.lean); close each card by the builder's one call (the guide's Derived/Test/ToyasCard.lean, 'card_holds'). Laid BY PROGRAM, IN A SANDBOX (cutbox-door.mjs). By AI agents, Wed Nov 11 2026. No macro, syntax, notation, axiom, sorry.
-/
import Derived.Test.YtbobmgmgnbgjdaaGreatDoorRows
import GoSem.ClaimSeven
namespace Go.Proofs.YtbobmgmgnbgjdaaGreatDoor
namespace Rows

/-- THE TIED CARD OF 'exegesislaw03.LangHeads'. -/
def langHeadsCard : Claim7 := { stood := { row := langHeadsRow, standIns := [], harness := (true, "2be1e768111bf1a37568a030a79ee72501c8ead450007a2a2f1c9ff675ebd372"), looks := true }, kinds := [], alts := [], laidByText := true, laidKinds := [.data, .data, .data, .data, .sentinel, .sentinel, .pinned], laidTests := true, laidLooks := .later }
def LangHeadsCardSaid : Prop := Claim7.holds Tryz.pinned (.plain (OpenSpec.ofChange langHeadsSpec)) langHeadsCard

/-- THE TIED CARD OF 'exegesislaw15.AsmPairs'. -/
def asmPairsCard : Claim7 := { stood := { row := asmPairsRow, standIns := [], harness := (true, "2be1e768111bf1a37568a030a79ee72501c8ead450007a2a2f1c9ff675ebd372"), looks := true }, kinds := [], alts := [], laidByText := true, laidKinds := [.data, .data, .data, .data, .sentinel, .sentinel, .pinned], laidTests := true, laidLooks := .later }
def AsmPairsCardSaid : Prop := Claim7.holds Tryz.pinned (.plain (OpenSpec.ofChange asmPairsSpec)) asmPairsCard

/-- THE TIED CARD OF 'exegesislaw15.AsmBounds'. -/
def asmBoundsCard : Claim7 := { stood := { row := asmBoundsRow, standIns := [], harness := (true, "2be1e768111bf1a37568a030a79ee72501c8ead450007a2a2f1c9ff675ebd372"), looks := true }, kinds := [], alts := [], laidByText := true, laidKinds := [.data, .data, .data, .data, .sentinel, .sentinel, .pinned], laidTests := true, laidLooks := .later }
def AsmBoundsCardSaid : Prop := Claim7.holds Tryz.pinned (.plain (OpenSpec.ofChange asmBoundsSpec)) asmBoundsCard

/-- THE SECOND FORM's CARD OF 'exegesislaw03.LangHeads'. -/
def langHeadsUptoCard : Claim7 := { stood := { row := langHeadsUptoRow, standIns := [], harness := (true, "2be1e768111bf1a37568a030a79ee72501c8ead450007a2a2f1c9ff675ebd372"), looks := true }, kinds := [], alts := [], laidByText := true, laidKinds := [.data, .data, .data, .data, .sentinel, .sentinel, .pinned], laidTests := true, laidLooks := .later }
def LangHeadsUptoCardSaid : Prop := Claim7.holds Tryz.pinned (.plain (OpenSpec.upto langHeadsSpec)) langHeadsUptoCard

/-- THE SECOND FORM's CARD OF 'exegesislaw15.AsmPairs'. -/
def asmPairsUptoCard : Claim7 := { stood := { row := asmPairsUptoRow, standIns := [], harness := (true, "2be1e768111bf1a37568a030a79ee72501c8ead450007a2a2f1c9ff675ebd372"), looks := true }, kinds := [], alts := [], laidByText := true, laidKinds := [.data, .data, .data, .data, .sentinel, .sentinel, .pinned], laidTests := true, laidLooks := .later }
def AsmPairsUptoCardSaid : Prop := Claim7.holds Tryz.pinned (.plain (OpenSpec.upto asmPairsSpec)) asmPairsUptoCard

/-- THE SECOND FORM's CARD OF 'exegesislaw15.AsmBounds'. -/
def asmBoundsUptoCard : Claim7 := { stood := { row := asmBoundsUptoRow, standIns := [], harness := (true, "2be1e768111bf1a37568a030a79ee72501c8ead450007a2a2f1c9ff675ebd372"), looks := true }, kinds := [], alts := [], laidByText := true, laidKinds := [.data, .data, .data, .data, .sentinel, .sentinel, .pinned], laidTests := true, laidLooks := .later }
def AsmBoundsUptoCardSaid : Prop := Claim7.holds Tryz.pinned (.plain (OpenSpec.upto asmBoundsSpec)) asmBoundsUptoCard
end Rows
end Go.Proofs.YtbobmgmgnbgjdaaGreatDoor
