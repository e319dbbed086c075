/-
  DERIVED. GIVEN WITH THE SEED: THE CARDS: each row of YtphcmjojnfpkdaaDoorRows.lean that lists a variable, with what it lists TIED to the program's text (the seventh form; the later family's looks); each row that meets fmt, with fmt's text TOLD by the authors' own Lean function (tested against real Go, not proved from fmt's source: count such statements apart). THE CARD IS WHAT COUNTS. Prove the row's statement (the work); the ties are given (YtphcmjojnfpkdaaDoorTie.lean); close each card by the builder's one call (the guide's Derived/Test/ToyasCard.lean, 'card_holds'). Laid BY PROGRAM, IN A SANDBOX (cutbox-door.mjs). By AI agents, Wed Nov 11 2026. No macro, syntax, notation, axiom, sorry.
-/
import Derived.Test.YtphcmjojnfpkdaaDoorRows
import GoSem.ClaimSeven
namespace Go.Proofs.YtphcmjojnfpkdaaDoor
namespace Rows

/-- THE TIED CARD OF 'exegesislaw22.TermMakes'. -/
def termMakesCard : Claim7 := { stood := { row := termMakesRow, standIns := [], harness := (true, "b917711225801a8bc7e4a0c9ef5775e9e5d9e437239f5806a17fbd4d2a11c7e5"), looks := false }, kinds := [], alts := [], laidByText := true, laidKinds := [.data, .data, .data], laidTests := true, laidLooks := .later }
def TermMakesCardSaid : Prop := Claim7.holds Tryd.pinned (.plain (OpenSpec.ofChange termMakesSpec)) termMakesCard

/-- THE SECOND FORM's CARD OF 'exegesislaw22.TermMakes'. -/
def termMakesUptoCard : Claim7 := { stood := { row := termMakesUptoRow, standIns := [], harness := (true, "b917711225801a8bc7e4a0c9ef5775e9e5d9e437239f5806a17fbd4d2a11c7e5"), looks := false }, kinds := [], alts := [], laidByText := true, laidKinds := [.data, .data, .data], laidTests := true, laidLooks := .later }
def TermMakesUptoCardSaid : Prop := Claim7.holds Tryd.pinned (.plain (OpenSpec.upto termMakesSpec)) termMakesUptoCard
end Rows
end Go.Proofs.YtphcmjojnfpkdaaDoor
