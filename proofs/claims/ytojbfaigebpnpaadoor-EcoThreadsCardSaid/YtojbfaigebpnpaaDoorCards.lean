/-
  DERIVED. GIVEN WITH THE SEED: THE CARDS: each row of YtojbfaigebpnpaaDoorRows.lean that lists a variable, with what it lists TIED to the program's text (the seventh form; the later family's looks); each row that meets fmt, with fmt's text TOLD by the authors' own Lean function (tested against real Go, not proved from fmt's source: count such statements apart). THE CARD IS WHAT COUNTS. Prove the row's statement (the work); the ties are given (YtojbfaigebpnpaaDoorTie.lean); close each card by the builder's one call (the guide's Derived/Test/ToyasCard.lean, 'card_holds'). Laid BY PROGRAM, IN A SANDBOX (cutbox-door.mjs). By AI agents, Wed Nov 11 2026. No macro, syntax, notation, axiom, sorry.
-/
import Derived.Test.YtojbfaigebpnpaaDoorRows
import GoSem.ClaimSeven
namespace Go.Proofs.YtojbfaigebpnpaaDoor
namespace Rows

/-- THE TIED CARD OF 'exegesislaw09.EcoThreads'. -/
def ecoThreadsCard : Claim7 := { stood := { row := ecoThreadsRow, standIns := [], harness := (true, "c5de8b73268ea47a840af8ce76064e091f57f227f9e6769a26f21c6dabd8840f"), looks := false }, kinds := [], alts := [], laidByText := true, laidKinds := [.data], laidTests := true, laidLooks := .later }
def EcoThreadsCardSaid : Prop := Claim7.holds Tryd.pinned (.plain (OpenSpec.ofChange ecoThreadsSpec)) ecoThreadsCard

/-- THE SECOND FORM's CARD OF 'exegesislaw09.EcoThreads'. -/
def ecoThreadsUptoCard : Claim7 := { stood := { row := ecoThreadsUptoRow, standIns := [], harness := (true, "c5de8b73268ea47a840af8ce76064e091f57f227f9e6769a26f21c6dabd8840f"), looks := false }, kinds := [], alts := [], laidByText := true, laidKinds := [.data], laidTests := true, laidLooks := .later }
def EcoThreadsUptoCardSaid : Prop := Claim7.holds Tryd.pinned (.plain (OpenSpec.upto ecoThreadsSpec)) ecoThreadsUptoCard
end Rows
end Go.Proofs.YtojbfaigebpnpaaDoor
