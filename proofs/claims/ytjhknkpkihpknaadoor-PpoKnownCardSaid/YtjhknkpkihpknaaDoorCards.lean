/-
  DERIVED. GIVEN WITH THE SEED: THE CARDS: each row of YtjhknkpkihpknaaDoorRows.lean that lists a variable, with what it lists TIED to the program's text (the seventh form; the later family's looks); each row that meets fmt, with fmt's text TOLD by the authors' own Lean function (tested against real Go, not proved from fmt's source: count such statements apart). THE CARD IS WHAT COUNTS. Prove the row's statement (the work); the ties are given (YtjhknkpkihpknaaDoorTie.lean); close each card by the builder's one call (the guide's Derived/Test/ToyasCard.lean, 'card_holds'). Laid BY PROGRAM, IN A SANDBOX (cutbox-door.mjs). By AI agents, Wed Nov 11 2026. No macro, syntax, notation, axiom, sorry.
-/
import Derived.Test.YtjhknkpkihpknaaDoorRows
import GoSem.ClaimSeven
namespace Go.Proofs.YtjhknkpkihpknaaDoor
namespace Rows

/-- THE TIED CARD OF 'exegesislaw06.GraphWrong'. -/
def graphWrongCard : Claim7 := { stood := { row := graphWrongRow, standIns := [], harness := (true, "dde19002bd08316af13649bdfd6121d28929b77a6ed06352cc28f466feaac151"), looks := false }, kinds := [], alts := [], laidByText := true, laidKinds := [.data], laidTests := true, laidLooks := .later }
def GraphWrongCardSaid : Prop := Claim7.holds Tryd.pinned (.plain (OpenSpec.ofChange graphWrongSpec)) graphWrongCard

/-- THE TIED CARD OF 'exegesislaw09.EcoLine'. -/
def ecoLineCard : Claim7 := { stood := { row := ecoLineRow, standIns := [], harness := (true, "dde19002bd08316af13649bdfd6121d28929b77a6ed06352cc28f466feaac151"), looks := false }, kinds := [], alts := [], laidByText := true, laidKinds := [.data], laidTests := true, laidLooks := .later }
def EcoLineCardSaid : Prop := Claim7.holds Tryd.pinned (.plain (OpenSpec.ofChange ecoLineSpec)) ecoLineCard

/-- THE TIED CARD OF 'exegesislaw10.SyncModes'. -/
def syncModesCard : Claim7 := { stood := { row := syncModesRow, standIns := [], harness := (true, "dde19002bd08316af13649bdfd6121d28929b77a6ed06352cc28f466feaac151"), looks := false }, kinds := [], alts := [], laidByText := true, laidKinds := [.data], laidTests := true, laidLooks := .later }
def SyncModesCardSaid : Prop := Claim7.holds Tryd.pinned (.plain (OpenSpec.ofChange syncModesSpec)) syncModesCard

/-- THE TIED CARD OF 'exegesislaw11.OrderBob'. -/
def orderBobCard : Claim7 := { stood := { row := orderBobRow, standIns := [], harness := (true, "dde19002bd08316af13649bdfd6121d28929b77a6ed06352cc28f466feaac151"), looks := false }, kinds := [], alts := [], laidByText := true, laidKinds := [.data], laidTests := true, laidLooks := .later }
def OrderBobCardSaid : Prop := Claim7.holds Tryd.pinned (.plain (OpenSpec.ofChange orderBobSpec)) orderBobCard

/-- THE TIED CARD OF 'exegesislaw19.PpoKnown'. -/
def ppoKnownCard : Claim7 := { stood := { row := ppoKnownRow, standIns := [], harness := (true, "dde19002bd08316af13649bdfd6121d28929b77a6ed06352cc28f466feaac151"), looks := false }, kinds := [], alts := [], laidByText := true, laidKinds := [.data], laidTests := true, laidLooks := .later }
def PpoKnownCardSaid : Prop := Claim7.holds Tryd.pinned (.plain (OpenSpec.ofChange ppoKnownSpec)) ppoKnownCard

/-- THE TIED CARD OF 'exegesislaw19.PpoFirst'. -/
def ppoFirstCard : Claim7 := { stood := { row := ppoFirstRow, standIns := [], harness := (true, "dde19002bd08316af13649bdfd6121d28929b77a6ed06352cc28f466feaac151"), looks := false }, kinds := [], alts := [], laidByText := true, laidKinds := [.data], laidTests := true, laidLooks := .later }
def PpoFirstCardSaid : Prop := Claim7.holds Tryd.pinned (.plain (OpenSpec.ofChange ppoFirstSpec)) ppoFirstCard

/-- THE TIED CARD OF 'exegesislaw20.PowerKnown'. -/
def powerKnownCard : Claim7 := { stood := { row := powerKnownRow, standIns := [], harness := (true, "dde19002bd08316af13649bdfd6121d28929b77a6ed06352cc28f466feaac151"), looks := false }, kinds := [], alts := [], laidByText := true, laidKinds := [.data], laidTests := true, laidLooks := .later }
def PowerKnownCardSaid : Prop := Claim7.holds Tryd.pinned (.plain (OpenSpec.ofChange powerKnownSpec)) powerKnownCard

/-- THE TIED CARD OF 'exegesislaw20.PowerWrites'. -/
def powerWritesCard : Claim7 := { stood := { row := powerWritesRow, standIns := [], harness := (true, "dde19002bd08316af13649bdfd6121d28929b77a6ed06352cc28f466feaac151"), looks := false }, kinds := [], alts := [], laidByText := true, laidKinds := [.data], laidTests := true, laidLooks := .later }
def PowerWritesCardSaid : Prop := Claim7.holds Tryd.pinned (.plain (OpenSpec.ofChange powerWritesSpec)) powerWritesCard

/-- THE TIED CARD OF 'exegesislaw20.PowerCoherent'. -/
def powerCoherentCard : Claim7 := { stood := { row := powerCoherentRow, standIns := [], harness := (true, "dde19002bd08316af13649bdfd6121d28929b77a6ed06352cc28f466feaac151"), looks := false }, kinds := [], alts := [], laidByText := true, laidKinds := [.data], laidTests := true, laidLooks := .later }
def PowerCoherentCardSaid : Prop := Claim7.holds Tryd.pinned (.plain (OpenSpec.ofChange powerCoherentSpec)) powerCoherentCard

/-- THE TIED CARD OF 'exegesislaw06.GraphPo'. -/
def graphPoCard : Claim7 := { stood := { row := graphPoRow, standIns := [], harness := (true, "dde19002bd08316af13649bdfd6121d28929b77a6ed06352cc28f466feaac151"), looks := false }, kinds := [], alts := [], laidByText := true, laidKinds := [.data], laidTests := true, laidLooks := .later }
def GraphPoCardSaid : Prop := Claim7.holds Tryd.pinned (.plain (OpenSpec.ofChange graphPoSpec)) graphPoCard

/-- THE SECOND FORM's CARD OF 'exegesislaw06.GraphWrong'. -/
def graphWrongUptoCard : Claim7 := { stood := { row := graphWrongUptoRow, standIns := [], harness := (true, "dde19002bd08316af13649bdfd6121d28929b77a6ed06352cc28f466feaac151"), looks := false }, kinds := [], alts := [], laidByText := true, laidKinds := [.data], laidTests := true, laidLooks := .later }
def GraphWrongUptoCardSaid : Prop := Claim7.holds Tryd.pinned (.plain (OpenSpec.upto graphWrongSpec)) graphWrongUptoCard

/-- THE SECOND FORM's CARD OF 'exegesislaw09.EcoLine'. -/
def ecoLineUptoCard : Claim7 := { stood := { row := ecoLineUptoRow, standIns := [], harness := (true, "dde19002bd08316af13649bdfd6121d28929b77a6ed06352cc28f466feaac151"), looks := false }, kinds := [], alts := [], laidByText := true, laidKinds := [.data], laidTests := true, laidLooks := .later }
def EcoLineUptoCardSaid : Prop := Claim7.holds Tryd.pinned (.plain (OpenSpec.upto ecoLineSpec)) ecoLineUptoCard

/-- THE SECOND FORM's CARD OF 'exegesislaw10.SyncModes'. -/
def syncModesUptoCard : Claim7 := { stood := { row := syncModesUptoRow, standIns := [], harness := (true, "dde19002bd08316af13649bdfd6121d28929b77a6ed06352cc28f466feaac151"), looks := false }, kinds := [], alts := [], laidByText := true, laidKinds := [.data], laidTests := true, laidLooks := .later }
def SyncModesUptoCardSaid : Prop := Claim7.holds Tryd.pinned (.plain (OpenSpec.upto syncModesSpec)) syncModesUptoCard

/-- THE SECOND FORM's CARD OF 'exegesislaw11.OrderBob'. -/
def orderBobUptoCard : Claim7 := { stood := { row := orderBobUptoRow, standIns := [], harness := (true, "dde19002bd08316af13649bdfd6121d28929b77a6ed06352cc28f466feaac151"), looks := false }, kinds := [], alts := [], laidByText := true, laidKinds := [.data], laidTests := true, laidLooks := .later }
def OrderBobUptoCardSaid : Prop := Claim7.holds Tryd.pinned (.plain (OpenSpec.upto orderBobSpec)) orderBobUptoCard

/-- THE SECOND FORM's CARD OF 'exegesislaw19.PpoKnown'. -/
def ppoKnownUptoCard : Claim7 := { stood := { row := ppoKnownUptoRow, standIns := [], harness := (true, "dde19002bd08316af13649bdfd6121d28929b77a6ed06352cc28f466feaac151"), looks := false }, kinds := [], alts := [], laidByText := true, laidKinds := [.data], laidTests := true, laidLooks := .later }
def PpoKnownUptoCardSaid : Prop := Claim7.holds Tryd.pinned (.plain (OpenSpec.upto ppoKnownSpec)) ppoKnownUptoCard

/-- THE SECOND FORM's CARD OF 'exegesislaw19.PpoFirst'. -/
def ppoFirstUptoCard : Claim7 := { stood := { row := ppoFirstUptoRow, standIns := [], harness := (true, "dde19002bd08316af13649bdfd6121d28929b77a6ed06352cc28f466feaac151"), looks := false }, kinds := [], alts := [], laidByText := true, laidKinds := [.data], laidTests := true, laidLooks := .later }
def PpoFirstUptoCardSaid : Prop := Claim7.holds Tryd.pinned (.plain (OpenSpec.upto ppoFirstSpec)) ppoFirstUptoCard

/-- THE SECOND FORM's CARD OF 'exegesislaw20.PowerKnown'. -/
def powerKnownUptoCard : Claim7 := { stood := { row := powerKnownUptoRow, standIns := [], harness := (true, "dde19002bd08316af13649bdfd6121d28929b77a6ed06352cc28f466feaac151"), looks := false }, kinds := [], alts := [], laidByText := true, laidKinds := [.data], laidTests := true, laidLooks := .later }
def PowerKnownUptoCardSaid : Prop := Claim7.holds Tryd.pinned (.plain (OpenSpec.upto powerKnownSpec)) powerKnownUptoCard

/-- THE SECOND FORM's CARD OF 'exegesislaw20.PowerWrites'. -/
def powerWritesUptoCard : Claim7 := { stood := { row := powerWritesUptoRow, standIns := [], harness := (true, "dde19002bd08316af13649bdfd6121d28929b77a6ed06352cc28f466feaac151"), looks := false }, kinds := [], alts := [], laidByText := true, laidKinds := [.data], laidTests := true, laidLooks := .later }
def PowerWritesUptoCardSaid : Prop := Claim7.holds Tryd.pinned (.plain (OpenSpec.upto powerWritesSpec)) powerWritesUptoCard

/-- THE SECOND FORM's CARD OF 'exegesislaw20.PowerCoherent'. -/
def powerCoherentUptoCard : Claim7 := { stood := { row := powerCoherentUptoRow, standIns := [], harness := (true, "dde19002bd08316af13649bdfd6121d28929b77a6ed06352cc28f466feaac151"), looks := false }, kinds := [], alts := [], laidByText := true, laidKinds := [.data], laidTests := true, laidLooks := .later }
def PowerCoherentUptoCardSaid : Prop := Claim7.holds Tryd.pinned (.plain (OpenSpec.upto powerCoherentSpec)) powerCoherentUptoCard

/-- THE SECOND FORM's CARD OF 'exegesislaw06.GraphPo'. -/
def graphPoUptoCard : Claim7 := { stood := { row := graphPoUptoRow, standIns := [], harness := (true, "dde19002bd08316af13649bdfd6121d28929b77a6ed06352cc28f466feaac151"), looks := false }, kinds := [], alts := [], laidByText := true, laidKinds := [.data], laidTests := true, laidLooks := .later }
def GraphPoUptoCardSaid : Prop := Claim7.holds Tryd.pinned (.plain (OpenSpec.upto graphPoSpec)) graphPoUptoCard
end Rows
end Go.Proofs.YtjhknkpkihpknaaDoor
