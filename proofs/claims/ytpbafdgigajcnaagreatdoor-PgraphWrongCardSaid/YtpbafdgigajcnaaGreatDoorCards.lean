/-
  DERIVED. GIVEN WITH THE SEED: THE CARDS: each row of YtpbafdgigajcnaaGreatDoorRows.lean that lists a variable, with what it lists TIED to the program's text (the seventh form; the later family's looks); each row that meets fmt, with fmt's text TOLD by the authors' own Lean function (tested against real Go, not proved from fmt's source: count such statements apart). THE CARD IS WHAT COUNTS. Prove the row's statement (the work); the ties are given (YtpbafdgigajcnaaGreatDoorTie.lean); close each card by the builder's one call (the guide's Derived/Test/ToyasCard.lean, 'card_holds'). Laid BY PROGRAM, IN A SANDBOX (cutbox-door.mjs). By AI agents, Wed Nov 11 2026. No macro, syntax, notation, axiom, sorry.
-/
import Derived.Test.YtpbafdgigajcnaaGreatDoorRows
import GoSem.ClaimSeven
namespace Go.Proofs.YtpbafdgigajcnaaGreatDoor
namespace Rows

/-- THE TIED CARD OF 'exegesislaw18.PgraphCounts'. -/
def pgraphCountsCard : Claim7 := { stood := { row := pgraphCountsRow, standIns := [], harness := (true, "ce97109bf53290317fe1d0c18be1774f981d66959112ccfe7a3a57214b2d20bc"), looks := true }, kinds := [], alts := [], laidByText := true, laidKinds := [.data, .data, .data, .data, .sentinel, .sentinel, .pinned], laidTests := true, laidLooks := .later }
def PgraphCountsCardSaid : Prop := Claim7.holds Tryz.pinned (.plain (OpenSpec.ofChange pgraphCountsSpec)) pgraphCountsCard

/-- THE TIED CARD OF 'exegesislaw18.PgraphWrong'. -/
def pgraphWrongCard : Claim7 := { stood := { row := pgraphWrongRow, standIns := [], harness := (true, "ce97109bf53290317fe1d0c18be1774f981d66959112ccfe7a3a57214b2d20bc"), looks := true }, kinds := [], alts := [], laidByText := true, laidKinds := [.data, .data, .data, .data, .sentinel, .sentinel, .pinned], laidTests := true, laidLooks := .later }
def PgraphWrongCardSaid : Prop := Claim7.holds Tryz.pinned (.plain (OpenSpec.ofChange pgraphWrongSpec)) pgraphWrongCard

/-- THE TIED CARD OF 'exegesislaw21.LiftOther'. -/
def liftOtherCard : Claim7 := { stood := { row := liftOtherRow, standIns := [], harness := (true, "ce97109bf53290317fe1d0c18be1774f981d66959112ccfe7a3a57214b2d20bc"), looks := true }, kinds := [], alts := [], laidByText := true, laidKinds := [.data, .data, .data, .data, .sentinel, .sentinel, .data, .pinned], laidTests := true, laidLooks := .later }
def LiftOtherCardSaid : Prop := Claim7.holds Tryz.pinned (.plain (OpenSpec.ofChange liftOtherSpec)) liftOtherCard

/-- THE SECOND FORM's CARD OF 'exegesislaw18.PgraphCounts'. -/
def pgraphCountsUptoCard : Claim7 := { stood := { row := pgraphCountsUptoRow, standIns := [], harness := (true, "ce97109bf53290317fe1d0c18be1774f981d66959112ccfe7a3a57214b2d20bc"), looks := true }, kinds := [], alts := [], laidByText := true, laidKinds := [.data, .data, .data, .data, .sentinel, .sentinel, .pinned], laidTests := true, laidLooks := .later }
def PgraphCountsUptoCardSaid : Prop := Claim7.holds Tryz.pinned (.plain (OpenSpec.upto pgraphCountsSpec)) pgraphCountsUptoCard

/-- THE SECOND FORM's CARD OF 'exegesislaw18.PgraphWrong'. -/
def pgraphWrongUptoCard : Claim7 := { stood := { row := pgraphWrongUptoRow, standIns := [], harness := (true, "ce97109bf53290317fe1d0c18be1774f981d66959112ccfe7a3a57214b2d20bc"), looks := true }, kinds := [], alts := [], laidByText := true, laidKinds := [.data, .data, .data, .data, .sentinel, .sentinel, .pinned], laidTests := true, laidLooks := .later }
def PgraphWrongUptoCardSaid : Prop := Claim7.holds Tryz.pinned (.plain (OpenSpec.upto pgraphWrongSpec)) pgraphWrongUptoCard

/-- THE SECOND FORM's CARD OF 'exegesislaw21.LiftOther'. -/
def liftOtherUptoCard : Claim7 := { stood := { row := liftOtherUptoRow, standIns := [], harness := (true, "ce97109bf53290317fe1d0c18be1774f981d66959112ccfe7a3a57214b2d20bc"), looks := true }, kinds := [], alts := [], laidByText := true, laidKinds := [.data, .data, .data, .data, .sentinel, .sentinel, .data, .pinned], laidTests := true, laidLooks := .later }
def LiftOtherUptoCardSaid : Prop := Claim7.holds Tryz.pinned (.plain (OpenSpec.upto liftOtherSpec)) liftOtherUptoCard
end Rows
end Go.Proofs.YtpbafdgigajcnaaGreatDoor
