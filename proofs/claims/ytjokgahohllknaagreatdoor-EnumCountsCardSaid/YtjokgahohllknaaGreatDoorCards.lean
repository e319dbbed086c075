/-
  DERIVED. GIVEN WITH THE SEED: THE CARDS: each row of YtjokgahohllknaaGreatDoorRows.lean that lists a variable, with what it lists TIED to the program's text (the seventh form; the later family's looks); each row that meets fmt, with fmt's text TOLD by the authors' own Lean function (tested against real Go, not proved from fmt's source: count such statements apart). THE CARD IS WHAT COUNTS. Prove the row's statement (the work); the ties are given (YtjokgahohllknaaGreatDoorTie.lean); close each card by the builder's one call (the guide's Derived/Test/ToyasCard.lean, 'card_holds'). Laid BY PROGRAM, IN A SANDBOX (cutbox-door.mjs). By AI agents, Wed Nov 11 2026. No macro, syntax, notation, axiom, sorry.
-/
import Derived.Test.YtjokgahohllknaaGreatDoorRows
import GoSem.ClaimSeven
namespace Go.Proofs.YtjokgahohllknaaGreatDoor
namespace Rows

/-- THE TIED CARD OF 'exegesislaw13.EnumCounts'. -/
def enumCountsCard : Claim7 := { stood := { row := enumCountsRow, standIns := [], harness := (true, "821b8ffc4f8501f6d6e983fad40ec28516fa7490cf3c1f5efe574276b0e5daff"), looks := false }, kinds := [], alts := [], laidByText := true, laidKinds := [.data], laidTests := true, laidLooks := .later }
def EnumCountsCardSaid : Prop := Claim7.holds Tryz.pinned (.plain (OpenSpec.ofChange enumCountsSpec)) enumCountsCard

/-- THE TIED CARD OF 'exegesislaw13.EnumValues'. -/
def enumValuesCard : Claim7 := { stood := { row := enumValuesRow, standIns := [], harness := (true, "821b8ffc4f8501f6d6e983fad40ec28516fa7490cf3c1f5efe574276b0e5daff"), looks := false }, kinds := [], alts := [], laidByText := true, laidKinds := [.data], laidTests := true, laidLooks := .later }
def EnumValuesCardSaid : Prop := Claim7.holds Tryz.pinned (.plain (OpenSpec.ofChange enumValuesSpec)) enumValuesCard

/-- THE TIED CARD OF 'exegesislaw13.EnumThreads'. -/
def enumThreadsCard : Claim7 := { stood := { row := enumThreadsRow, standIns := [], harness := (true, "821b8ffc4f8501f6d6e983fad40ec28516fa7490cf3c1f5efe574276b0e5daff"), looks := false }, kinds := [], alts := [], laidByText := true, laidKinds := [.data], laidTests := true, laidLooks := .later }
def EnumThreadsCardSaid : Prop := Claim7.holds Tryz.pinned (.plain (OpenSpec.ofChange enumThreadsSpec)) enumThreadsCard

/-- THE SECOND FORM's CARD OF 'exegesislaw13.EnumCounts'. -/
def enumCountsUptoCard : Claim7 := { stood := { row := enumCountsUptoRow, standIns := [], harness := (true, "821b8ffc4f8501f6d6e983fad40ec28516fa7490cf3c1f5efe574276b0e5daff"), looks := false }, kinds := [], alts := [], laidByText := true, laidKinds := [.data], laidTests := true, laidLooks := .later }
def EnumCountsUptoCardSaid : Prop := Claim7.holds Tryz.pinned (.plain (OpenSpec.upto enumCountsSpec)) enumCountsUptoCard

/-- THE SECOND FORM's CARD OF 'exegesislaw13.EnumValues'. -/
def enumValuesUptoCard : Claim7 := { stood := { row := enumValuesUptoRow, standIns := [], harness := (true, "821b8ffc4f8501f6d6e983fad40ec28516fa7490cf3c1f5efe574276b0e5daff"), looks := false }, kinds := [], alts := [], laidByText := true, laidKinds := [.data], laidTests := true, laidLooks := .later }
def EnumValuesUptoCardSaid : Prop := Claim7.holds Tryz.pinned (.plain (OpenSpec.upto enumValuesSpec)) enumValuesUptoCard

/-- THE SECOND FORM's CARD OF 'exegesislaw13.EnumThreads'. -/
def enumThreadsUptoCard : Claim7 := { stood := { row := enumThreadsUptoRow, standIns := [], harness := (true, "821b8ffc4f8501f6d6e983fad40ec28516fa7490cf3c1f5efe574276b0e5daff"), looks := false }, kinds := [], alts := [], laidByText := true, laidKinds := [.data], laidTests := true, laidLooks := .later }
def EnumThreadsUptoCardSaid : Prop := Claim7.holds Tryz.pinned (.plain (OpenSpec.upto enumThreadsSpec)) enumThreadsUptoCard
end Rows
end Go.Proofs.YtjokgahohllknaaGreatDoor
