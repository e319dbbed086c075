/-
  DERIVED. GIVEN WITH THE SEED: THE CARDS: each row of YtjohpnkpnfbedaaDoorRows.lean that lists a variable, with what it lists TIED to the program's text (the seventh form; the later family's looks); each row that meets fmt, with fmt's text TOLD by the authors' own Lean function (tested against real Go, not proved from fmt's source: count such statements apart). THE CARD IS WHAT COUNTS. Prove the row's statement (the work); the ties are given (YtjohpnkpnfbedaaDoorTie.lean); close each card by the builder's one call (the guide's Derived/Test/ToyasCard.lean, 'card_holds'). Laid BY PROGRAM, IN A SANDBOX (cutbox-door.mjs). By AI agents, Wed Nov 11 2026. No macro, syntax, notation, axiom, sorry.
-/
import Derived.Test.YtjohpnkpnfbedaaDoorRows
import GoSem.ClaimSeven
namespace Go.Proofs.YtjohpnkpnfbedaaDoor
namespace Rows

/-- THE TIED CARD OF 'exegesislaw04.SoundBounds'. -/
def soundBoundsCard : Claim7 := { stood := { row := soundBoundsRow, standIns := [], harness := (true, "35dcb4db9ad46c0070d4d245299e83ebde5489de6c95fb55d8401da997aac7d9"), looks := false }, kinds := [], alts := [], laidByText := true, laidKinds := [.data], laidTests := true, laidLooks := .later }
def SoundBoundsCardSaid : Prop := Claim7.holds Tryd.pinned (.plain (OpenSpec.ofChange soundBoundsSpec)) soundBoundsCard

/-- THE TIED CARD OF 'exegesislaw04.SoundWrong'. -/
def soundWrongCard : Claim7 := { stood := { row := soundWrongRow, standIns := [], harness := (true, "35dcb4db9ad46c0070d4d245299e83ebde5489de6c95fb55d8401da997aac7d9"), looks := false }, kinds := [], alts := [], laidByText := true, laidKinds := [.data], laidTests := true, laidLooks := .later }
def SoundWrongCardSaid : Prop := Claim7.holds Tryd.pinned (.plain (OpenSpec.ofChange soundWrongSpec)) soundWrongCard

/-- THE SECOND FORM's CARD OF 'exegesislaw04.SoundBounds'. -/
def soundBoundsUptoCard : Claim7 := { stood := { row := soundBoundsUptoRow, standIns := [], harness := (true, "35dcb4db9ad46c0070d4d245299e83ebde5489de6c95fb55d8401da997aac7d9"), looks := false }, kinds := [], alts := [], laidByText := true, laidKinds := [.data], laidTests := true, laidLooks := .later }
def SoundBoundsUptoCardSaid : Prop := Claim7.holds Tryd.pinned (.plain (OpenSpec.upto soundBoundsSpec)) soundBoundsUptoCard

/-- THE SECOND FORM's CARD OF 'exegesislaw04.SoundWrong'. -/
def soundWrongUptoCard : Claim7 := { stood := { row := soundWrongUptoRow, standIns := [], harness := (true, "35dcb4db9ad46c0070d4d245299e83ebde5489de6c95fb55d8401da997aac7d9"), looks := false }, kinds := [], alts := [], laidByText := true, laidKinds := [.data], laidTests := true, laidLooks := .later }
def SoundWrongUptoCardSaid : Prop := Claim7.holds Tryd.pinned (.plain (OpenSpec.upto soundWrongSpec)) soundWrongUptoCard
end Rows
end Go.Proofs.YtjohpnkpnfbedaaDoor
