/-
  DERIVED. GIVEN WITH THE SEED: THE CARDS: each row of YthcnhbclagegeaaGreatDoorRows.lean that lists a variable, with what it lists TIED to the program's text (the seventh form; the later family's looks); each row that meets fmt, with fmt's text TOLD by the authors' own Lean function (tested against real Go, not proved from fmt's source: count such statements apart). THE CARD IS WHAT COUNTS. Prove the row's statement (the work); the ties are given (YthcnhbclagegeaaGreatDoorTie.lean); close each card by the builder's one call (the guide's Derived/Test/ToyasCard.lean, 'card_holds'). Laid BY PROGRAM, IN A SANDBOX (cutbox-door.mjs). By AI agents, Wed Nov 11 2026. No macro, syntax, notation, axiom, sorry.
-/
import Derived.Test.YthcnhbclagegeaaGreatDoorRows
import GoSem.ClaimSeven
namespace Go.Proofs.YthcnhbclagegeaaGreatDoor
namespace Rows

/-- THE TIED CARD OF 'exegesislaw11.OrderAny'. -/
def orderAnyCard : Claim7 := { stood := { row := orderAnyRow, standIns := [], harness := (true, "8fb6b1ab039dd72bf5425c1b442ea2cf20df376bb18a25f1b85a62bf28d33c52"), looks := false }, kinds := [], alts := [], laidByText := true, laidKinds := [.data], laidTests := true, laidLooks := .later }
def OrderAnyCardSaid : Prop := Claim7.holds Tryz.pinned (.plain (OpenSpec.ofChange orderAnySpec)) orderAnyCard

/-- THE TIED CARD OF 'exegesislaw12.ImmAny'. -/
def immAnyCard : Claim7 := { stood := { row := immAnyRow, standIns := [], harness := (true, "8fb6b1ab039dd72bf5425c1b442ea2cf20df376bb18a25f1b85a62bf28d33c52"), looks := false }, kinds := [], alts := [], laidByText := true, laidKinds := [.data], laidTests := true, laidLooks := .later }
def ImmAnyCardSaid : Prop := Claim7.holds Tryz.pinned (.plain (OpenSpec.ofChange immAnySpec)) immAnyCard

/-- THE TIED CARD OF 'exegesislaw20.PowerAny'. -/
def powerAnyCard : Claim7 := { stood := { row := powerAnyRow, standIns := [], harness := (true, "8fb6b1ab039dd72bf5425c1b442ea2cf20df376bb18a25f1b85a62bf28d33c52"), looks := false }, kinds := [], alts := [], laidByText := true, laidKinds := [.data], laidTests := true, laidLooks := .later }
def PowerAnyCardSaid : Prop := Claim7.holds Tryz.pinned (.plain (OpenSpec.ofChange powerAnySpec)) powerAnyCard

/-- THE SECOND FORM's CARD OF 'exegesislaw11.OrderAny'. -/
def orderAnyUptoCard : Claim7 := { stood := { row := orderAnyUptoRow, standIns := [], harness := (true, "8fb6b1ab039dd72bf5425c1b442ea2cf20df376bb18a25f1b85a62bf28d33c52"), looks := false }, kinds := [], alts := [], laidByText := true, laidKinds := [.data], laidTests := true, laidLooks := .later }
def OrderAnyUptoCardSaid : Prop := Claim7.holds Tryz.pinned (.plain (OpenSpec.upto orderAnySpec)) orderAnyUptoCard

/-- THE SECOND FORM's CARD OF 'exegesislaw12.ImmAny'. -/
def immAnyUptoCard : Claim7 := { stood := { row := immAnyUptoRow, standIns := [], harness := (true, "8fb6b1ab039dd72bf5425c1b442ea2cf20df376bb18a25f1b85a62bf28d33c52"), looks := false }, kinds := [], alts := [], laidByText := true, laidKinds := [.data], laidTests := true, laidLooks := .later }
def ImmAnyUptoCardSaid : Prop := Claim7.holds Tryz.pinned (.plain (OpenSpec.upto immAnySpec)) immAnyUptoCard

/-- THE SECOND FORM's CARD OF 'exegesislaw20.PowerAny'. -/
def powerAnyUptoCard : Claim7 := { stood := { row := powerAnyUptoRow, standIns := [], harness := (true, "8fb6b1ab039dd72bf5425c1b442ea2cf20df376bb18a25f1b85a62bf28d33c52"), looks := false }, kinds := [], alts := [], laidByText := true, laidKinds := [.data], laidTests := true, laidLooks := .later }
def PowerAnyUptoCardSaid : Prop := Claim7.holds Tryz.pinned (.plain (OpenSpec.upto powerAnySpec)) powerAnyUptoCard
end Rows
end Go.Proofs.YthcnhbclagegeaaGreatDoor
