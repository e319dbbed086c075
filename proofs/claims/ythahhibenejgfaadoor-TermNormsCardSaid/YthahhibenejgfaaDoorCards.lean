/-
  DERIVED. GIVEN WITH THE SEED: THE CARDS: each row of YthahhibenejgfaaDoorRows.lean that lists a variable, with what it lists TIED to the program's text (the seventh form; the later family's looks); each row that meets fmt, with fmt's text TOLD by the authors' own Lean function (tested against real Go, not proved from fmt's source: count such statements apart). THE CARD IS WHAT COUNTS. Prove the row's statement (the work); the ties are given (YthahhibenejgfaaDoorTie.lean); close each card by the builder's one call (the guide's Derived/Test/ToyasCard.lean, 'card_holds'). Laid BY PROGRAM, IN A SANDBOX (cutbox-door.mjs). By AI agents, Wed Nov 11 2026. No macro, syntax, notation, axiom, sorry.
-/
import Derived.Test.YthahhibenejgfaaDoorRows
import GoSem.ClaimSeven
namespace Go.Proofs.YthahhibenejgfaaDoor
namespace Rows

/-- THE TIED CARD OF 'exegesislaw22.TermMakes'. -/
def termMakesCard : Claim7 := { stood := { row := termMakesRow, standIns := [], harness := (true, "715c4ee556b7dbb6070cae39a770cf180453cf8978beb5445ebefa439c9b6f2f"), looks := false }, kinds := [], alts := [], laidByText := true, laidKinds := [.data, .data, .data], laidTests := true, laidLooks := .later }
def TermMakesCardSaid : Prop := Claim7.holds Tryd.pinned (.plain (OpenSpec.ofChange termMakesSpec)) termMakesCard

/-- THE TIED CARD OF 'exegesislaw22.TermNorms'. -/
def termNormsCard : Claim7 := { stood := { row := termNormsRow, standIns := [], harness := (true, "715c4ee556b7dbb6070cae39a770cf180453cf8978beb5445ebefa439c9b6f2f"), looks := false }, kinds := [], alts := [], laidByText := true, laidKinds := [.data, .data, .data], laidTests := true, laidLooks := .later }
def TermNormsCardSaid : Prop := Claim7.holds Tryd.pinned (.plain (OpenSpec.ofChange termNormsSpec)) termNormsCard

/-- THE SECOND FORM's CARD OF 'exegesislaw22.TermMakes'. -/
def termMakesUptoCard : Claim7 := { stood := { row := termMakesUptoRow, standIns := [], harness := (true, "715c4ee556b7dbb6070cae39a770cf180453cf8978beb5445ebefa439c9b6f2f"), looks := false }, kinds := [], alts := [], laidByText := true, laidKinds := [.data, .data, .data], laidTests := true, laidLooks := .later }
def TermMakesUptoCardSaid : Prop := Claim7.holds Tryd.pinned (.plain (OpenSpec.upto termMakesSpec)) termMakesUptoCard

/-- THE SECOND FORM's CARD OF 'exegesislaw22.TermNorms'. -/
def termNormsUptoCard : Claim7 := { stood := { row := termNormsUptoRow, standIns := [], harness := (true, "715c4ee556b7dbb6070cae39a770cf180453cf8978beb5445ebefa439c9b6f2f"), looks := false }, kinds := [], alts := [], laidByText := true, laidKinds := [.data, .data, .data], laidTests := true, laidLooks := .later }
def TermNormsUptoCardSaid : Prop := Claim7.holds Tryd.pinned (.plain (OpenSpec.upto termNormsSpec)) termNormsUptoCard
end Rows
end Go.Proofs.YthahhibenejgfaaDoor
