/-
  DERIVED. GIVEN WITH THE SEED: THE CARDS: each row of YtkfepcmgbmnceaaDoorRows.lean that lists a variable, with what it lists TIED to the program's text (the seventh form; the later family's looks); each row that meets fmt, with fmt's text TOLD by the authors' own Lean function (tested against real Go, not proved from fmt's source: count such statements apart). THE CARD IS WHAT COUNTS. Prove the row's statement (the work); the ties are given (YtkfepcmgbmnceaaDoorTie.lean); close each card by the builder's one call (the guide's Derived/Test/ToyasCard.lean, 'card_holds'). Laid BY PROGRAM, IN A SANDBOX (cutbox-door.mjs). By AI agents, Wed Nov 11 2026. No macro, syntax, notation, axiom, sorry.
-/
import Derived.Test.YtkfepcmgbmnceaaDoorRows
import GoSem.ClaimSeven
namespace Go.Proofs.YtkfepcmgbmnceaaDoor
namespace Rows

/-- THE TIED CARD OF 'exegesislaw04.SoundNumbers'. -/
def soundNumbersCard : Claim7 := { stood := { row := soundNumbersRow, standIns := [], harness := (true, "4f82e69455709ea727151f051d8b591747c22b0f6efb3a3265b1404799d1ff6e"), looks := false }, kinds := [], alts := [], laidByText := true, laidKinds := [.data], laidTests := true, laidLooks := .later }
def SoundNumbersCardSaid : Prop := Claim7.holds Tryd.pinned (.plain (OpenSpec.ofChange soundNumbersSpec)) soundNumbersCard

/-- THE TIED CARD OF 'exegesislaw04.SoundBounds'. -/
def soundBoundsCard : Claim7 := { stood := { row := soundBoundsRow, standIns := [], harness := (true, "4f82e69455709ea727151f051d8b591747c22b0f6efb3a3265b1404799d1ff6e"), looks := false }, kinds := [], alts := [], laidByText := true, laidKinds := [.data], laidTests := true, laidLooks := .later }
def SoundBoundsCardSaid : Prop := Claim7.holds Tryd.pinned (.plain (OpenSpec.ofChange soundBoundsSpec)) soundBoundsCard

/-- THE TIED CARD OF 'exegesislaw04.SoundWrong'. -/
def soundWrongCard : Claim7 := { stood := { row := soundWrongRow, standIns := [], harness := (true, "4f82e69455709ea727151f051d8b591747c22b0f6efb3a3265b1404799d1ff6e"), looks := false }, kinds := [], alts := [], laidByText := true, laidKinds := [.data], laidTests := true, laidLooks := .later }
def SoundWrongCardSaid : Prop := Claim7.holds Tryd.pinned (.plain (OpenSpec.ofChange soundWrongSpec)) soundWrongCard

/-- THE SECOND FORM's CARD OF 'exegesislaw04.SoundNumbers'. -/
def soundNumbersUptoCard : Claim7 := { stood := { row := soundNumbersUptoRow, standIns := [], harness := (true, "4f82e69455709ea727151f051d8b591747c22b0f6efb3a3265b1404799d1ff6e"), looks := false }, kinds := [], alts := [], laidByText := true, laidKinds := [.data], laidTests := true, laidLooks := .later }
def SoundNumbersUptoCardSaid : Prop := Claim7.holds Tryd.pinned (.plain (OpenSpec.upto soundNumbersSpec)) soundNumbersUptoCard

/-- THE SECOND FORM's CARD OF 'exegesislaw04.SoundBounds'. -/
def soundBoundsUptoCard : Claim7 := { stood := { row := soundBoundsUptoRow, standIns := [], harness := (true, "4f82e69455709ea727151f051d8b591747c22b0f6efb3a3265b1404799d1ff6e"), looks := false }, kinds := [], alts := [], laidByText := true, laidKinds := [.data], laidTests := true, laidLooks := .later }
def SoundBoundsUptoCardSaid : Prop := Claim7.holds Tryd.pinned (.plain (OpenSpec.upto soundBoundsSpec)) soundBoundsUptoCard

/-- THE SECOND FORM's CARD OF 'exegesislaw04.SoundWrong'. -/
def soundWrongUptoCard : Claim7 := { stood := { row := soundWrongUptoRow, standIns := [], harness := (true, "4f82e69455709ea727151f051d8b591747c22b0f6efb3a3265b1404799d1ff6e"), looks := false }, kinds := [], alts := [], laidByText := true, laidKinds := [.data], laidTests := true, laidLooks := .later }
def SoundWrongUptoCardSaid : Prop := Claim7.holds Tryd.pinned (.plain (OpenSpec.upto soundWrongSpec)) soundWrongUptoCard
end Rows
end Go.Proofs.YtkfepcmgbmnceaaDoor
