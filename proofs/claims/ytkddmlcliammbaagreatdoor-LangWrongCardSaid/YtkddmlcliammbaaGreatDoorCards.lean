/-
  DERIVED. GIVEN WITH THE SEED: THE CARDS: each row of YtkddmlcliammbaaGreatDoorRows.lean that lists a variable, with what it lists TIED to the program's text (the seventh form; the later family's looks); each row that meets fmt, with fmt's text TOLD by the authors' own Lean function (tested against real Go, not proved from fmt's source: count such statements apart). THE CARD IS WHAT COUNTS. Prove the row's statement (the work); the ties are given (YtkddmlcliammbaaGreatDoorTie.lean); close each card by the builder's one call (the guide's Derived/Test/ToyasCard.lean, 'card_holds'). Laid BY PROGRAM, IN A SANDBOX (cutbox-door.mjs). By AI agents, Wed Nov 11 2026. No macro, syntax, notation, axiom, sorry.
-/
import Derived.Test.YtkddmlcliammbaaGreatDoorRows
import GoSem.ClaimSeven
namespace Go.Proofs.YtkddmlcliammbaaGreatDoor
namespace Rows

/-- THE TIED CARD OF 'exegesislaw03.LangWrong'. -/
def langWrongCard : Claim7 := { stood := { row := langWrongRow, standIns := [], harness := (true, "4c5a60bb0e07f30738f86d26de5cb17085d950bc71e3b8d97068891f19e58919"), looks := true }, kinds := [], alts := [], laidByText := true, laidKinds := [.data, .data, .data, .data, .sentinel, .sentinel, .pinned], laidTests := true, laidLooks := .later }
def LangWrongCardSaid : Prop := Claim7.holds Tryz.pinned (.plain (OpenSpec.ofChange langWrongSpec)) langWrongCard

/-- THE SECOND FORM's CARD OF 'exegesislaw03.LangWrong'. -/
def langWrongUptoCard : Claim7 := { stood := { row := langWrongUptoRow, standIns := [], harness := (true, "4c5a60bb0e07f30738f86d26de5cb17085d950bc71e3b8d97068891f19e58919"), looks := true }, kinds := [], alts := [], laidByText := true, laidKinds := [.data, .data, .data, .data, .sentinel, .sentinel, .pinned], laidTests := true, laidLooks := .later }
def LangWrongUptoCardSaid : Prop := Claim7.holds Tryz.pinned (.plain (OpenSpec.upto langWrongSpec)) langWrongUptoCard
end Rows
end Go.Proofs.YtkddmlcliammbaaGreatDoor
