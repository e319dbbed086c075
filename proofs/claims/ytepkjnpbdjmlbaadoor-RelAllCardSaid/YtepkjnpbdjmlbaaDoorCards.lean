/-
  DERIVED. GIVEN WITH THE SEED: THE CARDS: each row of YtepkjnpbdjmlbaaDoorRows.lean that lists a variable, with what it lists TIED to the program's text (the seventh form; the later family's looks); each row that meets fmt, with fmt's text TOLD by the authors' own Lean function (tested against real Go, not proved from fmt's source: count such statements apart). THE CARD IS WHAT COUNTS. Prove the row's statement (the work); the ties are given (YtepkjnpbdjmlbaaDoorTie.lean); close each card by the builder's one call (the guide's Derived/Test/ToyasCard.lean, 'card_holds'). Laid BY PROGRAM, IN A SANDBOX (cutbox-door.mjs). By AI agents, Wed Nov 11 2026. No macro, syntax, notation, axiom, sorry.
-/
import Derived.Test.YtepkjnpbdjmlbaaDoorRows
import GoSem.ClaimSeven
namespace Go.Proofs.YtepkjnpbdjmlbaaDoor
namespace Rows

/-- THE TIED CARD OF 'exegesislaw01.RelAll'. -/
def relAllCard : Claim7 := { stood := { row := relAllRow, standIns := [], harness := (true, "5d08ed416c3c14d3daa6fd81543f0b2f4fbebf7daac130ea385c9d46bf71534b"), looks := false }, kinds := [], alts := [], laidByText := true, laidKinds := [.data], laidTests := true, laidLooks := .later }
def RelAllCardSaid : Prop := Claim7.holds Tryd.pinned (.plain (OpenSpec.ofChange relAllSpec)) relAllCard

/-- THE TIED CARD OF 'exegesislaw01.RelAlgebra'. -/
def relAlgebraCard : Claim7 := { stood := { row := relAlgebraRow, standIns := [], harness := (true, "5d08ed416c3c14d3daa6fd81543f0b2f4fbebf7daac130ea385c9d46bf71534b"), looks := false }, kinds := [], alts := [], laidByText := true, laidKinds := [.data], laidTests := true, laidLooks := .later }
def RelAlgebraCardSaid : Prop := Claim7.holds Tryd.pinned (.plain (OpenSpec.ofChange relAlgebraSpec)) relAlgebraCard

/-- THE TIED CARD OF 'exegesislaw01.RelLines'. -/
def relLinesCard : Claim7 := { stood := { row := relLinesRow, standIns := [], harness := (true, "5d08ed416c3c14d3daa6fd81543f0b2f4fbebf7daac130ea385c9d46bf71534b"), looks := false }, kinds := [], alts := [], laidByText := true, laidKinds := [.data], laidTests := true, laidLooks := .later }
def RelLinesCardSaid : Prop := Claim7.holds Tryd.pinned (.plain (OpenSpec.ofChange relLinesSpec)) relLinesCard

/-- THE TIED CARD OF 'exegesislaw01.RelSizes'. -/
def relSizesCard : Claim7 := { stood := { row := relSizesRow, standIns := [], harness := (true, "5d08ed416c3c14d3daa6fd81543f0b2f4fbebf7daac130ea385c9d46bf71534b"), looks := false }, kinds := [], alts := [], laidByText := true, laidKinds := [.data], laidTests := true, laidLooks := .later }
def RelSizesCardSaid : Prop := Claim7.holds Tryd.pinned (.plain (OpenSpec.ofChange relSizesSpec)) relSizesCard

/-- THE SECOND FORM's CARD OF 'exegesislaw01.RelAll'. -/
def relAllUptoCard : Claim7 := { stood := { row := relAllUptoRow, standIns := [], harness := (true, "5d08ed416c3c14d3daa6fd81543f0b2f4fbebf7daac130ea385c9d46bf71534b"), looks := false }, kinds := [], alts := [], laidByText := true, laidKinds := [.data], laidTests := true, laidLooks := .later }
def RelAllUptoCardSaid : Prop := Claim7.holds Tryd.pinned (.plain (OpenSpec.upto relAllSpec)) relAllUptoCard

/-- THE SECOND FORM's CARD OF 'exegesislaw01.RelAlgebra'. -/
def relAlgebraUptoCard : Claim7 := { stood := { row := relAlgebraUptoRow, standIns := [], harness := (true, "5d08ed416c3c14d3daa6fd81543f0b2f4fbebf7daac130ea385c9d46bf71534b"), looks := false }, kinds := [], alts := [], laidByText := true, laidKinds := [.data], laidTests := true, laidLooks := .later }
def RelAlgebraUptoCardSaid : Prop := Claim7.holds Tryd.pinned (.plain (OpenSpec.upto relAlgebraSpec)) relAlgebraUptoCard

/-- THE SECOND FORM's CARD OF 'exegesislaw01.RelLines'. -/
def relLinesUptoCard : Claim7 := { stood := { row := relLinesUptoRow, standIns := [], harness := (true, "5d08ed416c3c14d3daa6fd81543f0b2f4fbebf7daac130ea385c9d46bf71534b"), looks := false }, kinds := [], alts := [], laidByText := true, laidKinds := [.data], laidTests := true, laidLooks := .later }
def RelLinesUptoCardSaid : Prop := Claim7.holds Tryd.pinned (.plain (OpenSpec.upto relLinesSpec)) relLinesUptoCard

/-- THE SECOND FORM's CARD OF 'exegesislaw01.RelSizes'. -/
def relSizesUptoCard : Claim7 := { stood := { row := relSizesUptoRow, standIns := [], harness := (true, "5d08ed416c3c14d3daa6fd81543f0b2f4fbebf7daac130ea385c9d46bf71534b"), looks := false }, kinds := [], alts := [], laidByText := true, laidKinds := [.data], laidTests := true, laidLooks := .later }
def RelSizesUptoCardSaid : Prop := Claim7.holds Tryd.pinned (.plain (OpenSpec.upto relSizesSpec)) relSizesUptoCard
end Rows
end Go.Proofs.YtepkjnpbdjmlbaaDoor
