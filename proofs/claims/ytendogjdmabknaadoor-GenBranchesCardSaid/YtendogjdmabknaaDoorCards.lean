/-
  DERIVED. GIVEN WITH THE SEED: THE CARDS: each row of YtendogjdmabknaaDoorRows.lean that lists a variable, with what it lists TIED to the program's text (the seventh form; the later family's looks); each row that meets fmt, with fmt's text TOLD by the authors' own Lean function (tested against real Go, not proved from fmt's source: count such statements apart). THE CARD IS WHAT COUNTS. Prove the row's statement (the work); the ties are given (YtendogjdmabknaaDoorTie.lean); close each card by the builder's one call (the guide's Derived/Test/ToyasCard.lean, 'card_holds'). Laid BY PROGRAM, IN A SANDBOX (cutbox-door.mjs). By AI agents, Wed Nov 11 2026. No macro, syntax, notation, axiom, sorry.
-/
import Derived.Test.YtendogjdmabknaaDoorRows
import GoSem.ClaimSeven
namespace Go.Proofs.YtendogjdmabknaaDoor
namespace Rows

/-- THE TIED CARD OF 'exegesislaw07.GenBranches'. -/
def genBranchesCard : Claim7 := { stood := { row := genBranchesRow, standIns := [], harness := (true, "baa01e227c56de66dce4f6e813f472d3467c9c18957d396f812c4c4219c81e20"), looks := false }, kinds := [], alts := [], laidByText := true, laidKinds := [.data], laidTests := true, laidLooks := .later }
def GenBranchesCardSaid : Prop := Claim7.holds Tryd.pinned (.plain (OpenSpec.ofChange genBranchesSpec)) genBranchesCard

/-- THE TIED CARD OF 'exegesislaw22.TermNorms'. -/
def termNormsCard : Claim7 := { stood := { row := termNormsRow, standIns := [], harness := (true, "baa01e227c56de66dce4f6e813f472d3467c9c18957d396f812c4c4219c81e20"), looks := false }, kinds := [], alts := [], laidByText := true, laidKinds := [.data, .data, .data], laidTests := true, laidLooks := .later }
def TermNormsCardSaid : Prop := Claim7.holds Tryd.pinned (.plain (OpenSpec.ofChange termNormsSpec)) termNormsCard

/-- THE TIED CARD OF 'exegesislaw22.TermSums'. -/
def termSumsCard : Claim7 := { stood := { row := termSumsRow, standIns := [], harness := (true, "baa01e227c56de66dce4f6e813f472d3467c9c18957d396f812c4c4219c81e20"), looks := false }, kinds := [], alts := [], laidByText := true, laidKinds := [.data, .data, .data], laidTests := true, laidLooks := .later }
def TermSumsCardSaid : Prop := Claim7.holds Tryd.pinned (.plain (OpenSpec.ofChange termSumsSpec)) termSumsCard

/-- THE SECOND FORM's CARD OF 'exegesislaw07.GenBranches'. -/
def genBranchesUptoCard : Claim7 := { stood := { row := genBranchesUptoRow, standIns := [], harness := (true, "baa01e227c56de66dce4f6e813f472d3467c9c18957d396f812c4c4219c81e20"), looks := false }, kinds := [], alts := [], laidByText := true, laidKinds := [.data], laidTests := true, laidLooks := .later }
def GenBranchesUptoCardSaid : Prop := Claim7.holds Tryd.pinned (.plain (OpenSpec.upto genBranchesSpec)) genBranchesUptoCard

/-- THE SECOND FORM's CARD OF 'exegesislaw22.TermNorms'. -/
def termNormsUptoCard : Claim7 := { stood := { row := termNormsUptoRow, standIns := [], harness := (true, "baa01e227c56de66dce4f6e813f472d3467c9c18957d396f812c4c4219c81e20"), looks := false }, kinds := [], alts := [], laidByText := true, laidKinds := [.data, .data, .data], laidTests := true, laidLooks := .later }
def TermNormsUptoCardSaid : Prop := Claim7.holds Tryd.pinned (.plain (OpenSpec.upto termNormsSpec)) termNormsUptoCard

/-- THE SECOND FORM's CARD OF 'exegesislaw22.TermSums'. -/
def termSumsUptoCard : Claim7 := { stood := { row := termSumsUptoRow, standIns := [], harness := (true, "baa01e227c56de66dce4f6e813f472d3467c9c18957d396f812c4c4219c81e20"), looks := false }, kinds := [], alts := [], laidByText := true, laidKinds := [.data, .data, .data], laidTests := true, laidLooks := .later }
def TermSumsUptoCardSaid : Prop := Claim7.holds Tryd.pinned (.plain (OpenSpec.upto termSumsSpec)) termSumsUptoCard
end Rows
end Go.Proofs.YtendogjdmabknaaDoor
