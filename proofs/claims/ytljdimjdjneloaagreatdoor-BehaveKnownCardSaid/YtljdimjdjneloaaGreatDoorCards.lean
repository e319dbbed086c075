/-
  DERIVED. GIVEN WITH THE SEED: THE CARDS: each row of YtljdimjdjneloaaGreatDoorRows.lean that lists a variable, with what it lists TIED to the program's text (the seventh form; the later family's looks); each row that meets fmt, with fmt's text TOLD by the authors' own Lean function (tested against real Go, not proved from fmt's source: count such statements apart). THE CARD IS WHAT COUNTS. Prove the row's statement (the work); the ties are given (YtljdimjdjneloaaGreatDoorTie.lean); close each card by the builder's one call (the guide's Derived/Test/ToyasCard.lean, 'card_holds'). Laid BY PROGRAM, IN A SANDBOX (cutbox-door.mjs). By AI agents, Wed Nov 11 2026. No macro, syntax, notation, axiom, sorry.
-/
import Derived.Test.YtljdimjdjneloaaGreatDoorRows
import GoSem.ClaimSeven
namespace Go.Proofs.YtljdimjdjneloaaGreatDoor
namespace Rows

/-- THE TIED CARD OF 'exegesislaw14.BehaveKnown'. -/
def behaveKnownCard : Claim7 := { stood := { row := behaveKnownRow, standIns := [], harness := (true, "8cf53b9278235626bb48bb96db6333fa50a07a6e6e049574850454bc783ebfb8"), looks := false }, kinds := [], alts := [], laidByText := true, laidKinds := [.data, .data], laidTests := true, laidLooks := .later }
def BehaveKnownCardSaid : Prop := Claim7.holds Tryz.pinned (.plain (OpenSpec.ofChange behaveKnownSpec)) behaveKnownCard

/-- THE TIED CARD OF 'exegesislaw14.BehaveFences'. -/
def behaveFencesCard : Claim7 := { stood := { row := behaveFencesRow, standIns := [], harness := (true, "8cf53b9278235626bb48bb96db6333fa50a07a6e6e049574850454bc783ebfb8"), looks := false }, kinds := [], alts := [], laidByText := true, laidKinds := [.data, .data], laidTests := true, laidLooks := .later }
def BehaveFencesCardSaid : Prop := Claim7.holds Tryz.pinned (.plain (OpenSpec.ofChange behaveFencesSpec)) behaveFencesCard

/-- THE SECOND FORM's CARD OF 'exegesislaw14.BehaveKnown'. -/
def behaveKnownUptoCard : Claim7 := { stood := { row := behaveKnownUptoRow, standIns := [], harness := (true, "8cf53b9278235626bb48bb96db6333fa50a07a6e6e049574850454bc783ebfb8"), looks := false }, kinds := [], alts := [], laidByText := true, laidKinds := [.data, .data], laidTests := true, laidLooks := .later }
def BehaveKnownUptoCardSaid : Prop := Claim7.holds Tryz.pinned (.plain (OpenSpec.upto behaveKnownSpec)) behaveKnownUptoCard

/-- THE SECOND FORM's CARD OF 'exegesislaw14.BehaveFences'. -/
def behaveFencesUptoCard : Claim7 := { stood := { row := behaveFencesUptoRow, standIns := [], harness := (true, "8cf53b9278235626bb48bb96db6333fa50a07a6e6e049574850454bc783ebfb8"), looks := false }, kinds := [], alts := [], laidByText := true, laidKinds := [.data, .data], laidTests := true, laidLooks := .later }
def BehaveFencesUptoCardSaid : Prop := Claim7.holds Tryz.pinned (.plain (OpenSpec.upto behaveFencesSpec)) behaveFencesUptoCard
end Rows
end Go.Proofs.YtljdimjdjneloaaGreatDoor
