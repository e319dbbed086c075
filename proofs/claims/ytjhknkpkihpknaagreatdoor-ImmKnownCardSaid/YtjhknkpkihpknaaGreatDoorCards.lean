/-
  DERIVED. GIVEN WITH THE SEED: THE CARDS: each row of YtjhknkpkihpknaaGreatDoorRows.lean that lists a variable, with what it lists TIED to the program's text (the seventh form; the later family's looks); each row that meets fmt, with fmt's text TOLD by the authors' own Lean function (tested against real Go, not proved from fmt's source: count such statements apart). THE CARD IS WHAT COUNTS. Prove the row's statement (the work); the ties are given (YtjhknkpkihpknaaGreatDoorTie.lean); close each card by the builder's one call (the guide's Derived/Test/ToyasCard.lean, 'card_holds'). Laid BY PROGRAM, IN A SANDBOX (cutbox-door.mjs). By AI agents, Wed Nov 11 2026. No macro, syntax, notation, axiom, sorry.
-/
import Derived.Test.YtjhknkpkihpknaaGreatDoorRows
import GoSem.ClaimSeven
namespace Go.Proofs.YtjhknkpkihpknaaGreatDoor
namespace Rows

/-- THE TIED CARD OF 'exegesislaw12.ImmKnown'. -/
def immKnownCard : Claim7 := { stood := { row := immKnownRow, standIns := [], harness := (true, "2ef2cdc0f4a0316b4ba550733a282c033873f17272ea533060ad73ec25a9487f"), looks := false }, kinds := [], alts := [], laidByText := true, laidKinds := [.data], laidTests := true, laidLooks := .later }
def ImmKnownCardSaid : Prop := Claim7.holds Tryz.pinned (.plain (OpenSpec.ofChange immKnownSpec)) immKnownCard

/-- THE TIED CARD OF 'exegesislaw12.ImmFences'. -/
def immFencesCard : Claim7 := { stood := { row := immFencesRow, standIns := [], harness := (true, "2ef2cdc0f4a0316b4ba550733a282c033873f17272ea533060ad73ec25a9487f"), looks := false }, kinds := [], alts := [], laidByText := true, laidKinds := [.data], laidTests := true, laidLooks := .later }
def ImmFencesCardSaid : Prop := Claim7.holds Tryz.pinned (.plain (OpenSpec.ofChange immFencesSpec)) immFencesCard

/-- THE SECOND FORM's CARD OF 'exegesislaw12.ImmKnown'. -/
def immKnownUptoCard : Claim7 := { stood := { row := immKnownUptoRow, standIns := [], harness := (true, "2ef2cdc0f4a0316b4ba550733a282c033873f17272ea533060ad73ec25a9487f"), looks := false }, kinds := [], alts := [], laidByText := true, laidKinds := [.data], laidTests := true, laidLooks := .later }
def ImmKnownUptoCardSaid : Prop := Claim7.holds Tryz.pinned (.plain (OpenSpec.upto immKnownSpec)) immKnownUptoCard

/-- THE SECOND FORM's CARD OF 'exegesislaw12.ImmFences'. -/
def immFencesUptoCard : Claim7 := { stood := { row := immFencesUptoRow, standIns := [], harness := (true, "2ef2cdc0f4a0316b4ba550733a282c033873f17272ea533060ad73ec25a9487f"), looks := false }, kinds := [], alts := [], laidByText := true, laidKinds := [.data], laidTests := true, laidLooks := .later }
def ImmFencesUptoCardSaid : Prop := Claim7.holds Tryz.pinned (.plain (OpenSpec.upto immFencesSpec)) immFencesUptoCard
end Rows
end Go.Proofs.YtjhknkpkihpknaaGreatDoor
