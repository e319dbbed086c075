/-
  DERIVED. GIVEN WITH THE SEED: THE CARDS: each row of YtendogjdmabknaaGreatDoorRows.lean that lists a variable, with what it lists TIED to the program's text (the seventh form; the later family's looks); each row that meets fmt, with fmt's text TOLD by the authors' own Lean function (tested against real Go, not proved from fmt's source: count such statements apart). THE CARD IS WHAT COUNTS. Prove the row's statement (the work); the ties are given (YtendogjdmabknaaGreatDoorTie.lean); close each card by the builder's one call (the guide's Derived/Test/ToyasCard.lean, 'card_holds'). Laid BY PROGRAM, IN A SANDBOX (cutbox-door.mjs). By AI agents, Wed Nov 11 2026. No macro, syntax, notation, axiom, sorry.
-/
import Derived.Test.YtendogjdmabknaaGreatDoorRows
import GoSem.ClaimSeven
namespace Go.Proofs.YtendogjdmabknaaGreatDoor
namespace Rows

/-- THE TIED CARD OF 'exegesislaw07.GenCounts'. -/
def genCountsCard : Claim7 := { stood := { row := genCountsRow, standIns := [], harness := (true, "de5e43855e27642c6a1e1a939863cfc886e6b937122329dd5b5d69495ae4d698"), looks := false }, kinds := [], alts := [], laidByText := true, laidKinds := [.data], laidTests := true, laidLooks := .later }
def GenCountsCardSaid : Prop := Claim7.holds Tryz.pinned (.plain (OpenSpec.ofChange genCountsSpec)) genCountsCard

/-- THE TIED CARD OF 'exegesislaw23.SymexCounts'. -/
def symexCountsCard : Claim7 := { stood := { row := symexCountsRow, standIns := [], harness := (true, "de5e43855e27642c6a1e1a939863cfc886e6b937122329dd5b5d69495ae4d698"), looks := false }, kinds := [], alts := [], laidByText := true, laidKinds := [.data, .data, .data], laidTests := true, laidLooks := .later }
def SymexCountsCardSaid : Prop := Claim7.holds Tryz.pinned (.plain (OpenSpec.ofChange symexCountsSpec)) symexCountsCard

/-- THE TIED CARD OF 'exegesislaw23.SymexBig'. -/
def symexBigCard : Claim7 := { stood := { row := symexBigRow, standIns := [], harness := (true, "de5e43855e27642c6a1e1a939863cfc886e6b937122329dd5b5d69495ae4d698"), looks := false }, kinds := [], alts := [], laidByText := true, laidKinds := [.data, .data, .data], laidTests := true, laidLooks := .later }
def SymexBigCardSaid : Prop := Claim7.holds Tryz.pinned (.plain (OpenSpec.ofChange symexBigSpec)) symexBigCard

/-- THE TIED CARD OF 'exegesislaw23.SymexLess'. -/
def symexLessCard : Claim7 := { stood := { row := symexLessRow, standIns := [], harness := (true, "de5e43855e27642c6a1e1a939863cfc886e6b937122329dd5b5d69495ae4d698"), looks := false }, kinds := [], alts := [], laidByText := true, laidKinds := [.data, .data, .data], laidTests := true, laidLooks := .later }
def SymexLessCardSaid : Prop := Claim7.holds Tryz.pinned (.plain (OpenSpec.ofChange symexLessSpec)) symexLessCard

/-- THE SECOND FORM's CARD OF 'exegesislaw07.GenCounts'. -/
def genCountsUptoCard : Claim7 := { stood := { row := genCountsUptoRow, standIns := [], harness := (true, "de5e43855e27642c6a1e1a939863cfc886e6b937122329dd5b5d69495ae4d698"), looks := false }, kinds := [], alts := [], laidByText := true, laidKinds := [.data], laidTests := true, laidLooks := .later }
def GenCountsUptoCardSaid : Prop := Claim7.holds Tryz.pinned (.plain (OpenSpec.upto genCountsSpec)) genCountsUptoCard

/-- THE SECOND FORM's CARD OF 'exegesislaw23.SymexCounts'. -/
def symexCountsUptoCard : Claim7 := { stood := { row := symexCountsUptoRow, standIns := [], harness := (true, "de5e43855e27642c6a1e1a939863cfc886e6b937122329dd5b5d69495ae4d698"), looks := false }, kinds := [], alts := [], laidByText := true, laidKinds := [.data, .data, .data], laidTests := true, laidLooks := .later }
def SymexCountsUptoCardSaid : Prop := Claim7.holds Tryz.pinned (.plain (OpenSpec.upto symexCountsSpec)) symexCountsUptoCard

/-- THE SECOND FORM's CARD OF 'exegesislaw23.SymexBig'. -/
def symexBigUptoCard : Claim7 := { stood := { row := symexBigUptoRow, standIns := [], harness := (true, "de5e43855e27642c6a1e1a939863cfc886e6b937122329dd5b5d69495ae4d698"), looks := false }, kinds := [], alts := [], laidByText := true, laidKinds := [.data, .data, .data], laidTests := true, laidLooks := .later }
def SymexBigUptoCardSaid : Prop := Claim7.holds Tryz.pinned (.plain (OpenSpec.upto symexBigSpec)) symexBigUptoCard

/-- THE SECOND FORM's CARD OF 'exegesislaw23.SymexLess'. -/
def symexLessUptoCard : Claim7 := { stood := { row := symexLessUptoRow, standIns := [], harness := (true, "de5e43855e27642c6a1e1a939863cfc886e6b937122329dd5b5d69495ae4d698"), looks := false }, kinds := [], alts := [], laidByText := true, laidKinds := [.data, .data, .data], laidTests := true, laidLooks := .later }
def SymexLessUptoCardSaid : Prop := Claim7.holds Tryz.pinned (.plain (OpenSpec.upto symexLessSpec)) symexLessUptoCard
end Rows
end Go.Proofs.YtendogjdmabknaaGreatDoor
