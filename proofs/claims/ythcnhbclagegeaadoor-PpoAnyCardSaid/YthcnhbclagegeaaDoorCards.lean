/-
  DERIVED. GIVEN WITH THE SEED: THE CARDS: each row of YthcnhbclagegeaaDoorRows.lean that lists a variable, with what it lists TIED to the program's text (the seventh form; the later family's looks); each row that meets fmt, with fmt's text TOLD by the authors' own Lean function (tested against real Go, not proved from fmt's source: count such statements apart). THE CARD IS WHAT COUNTS. Prove the row's statement (the work); the ties are given (YthcnhbclagegeaaDoorTie.lean); close each card by the builder's one call (the guide's Derived/Test/ToyasCard.lean, 'card_holds'). Laid BY PROGRAM, IN A SANDBOX (cutbox-door.mjs). By AI agents, Wed Nov 11 2026. No macro, syntax, notation, axiom, sorry.
-/
import Derived.Test.YthcnhbclagegeaaDoorRows
import GoSem.ClaimSeven
namespace Go.Proofs.YthcnhbclagegeaaDoor
namespace Rows

/-- THE TIED CARD OF 'exegesislaw06.GraphPo'. -/
def graphPoCard : Claim7 := { stood := { row := graphPoRow, standIns := [], harness := (true, "98d3f0245f6a3cccc727f15f8e63398ea30a41ce0c38cb88771cd13a109a4c23"), looks := false }, kinds := [], alts := [], laidByText := true, laidKinds := [.data], laidTests := true, laidLooks := .later }
def GraphPoCardSaid : Prop := Claim7.holds Tryd.pinned (.plain (OpenSpec.ofChange graphPoSpec)) graphPoCard

/-- THE TIED CARD OF 'exegesislaw09.EcoAny'. -/
def ecoAnyCard : Claim7 := { stood := { row := ecoAnyRow, standIns := [], harness := (true, "98d3f0245f6a3cccc727f15f8e63398ea30a41ce0c38cb88771cd13a109a4c23"), looks := false }, kinds := [], alts := [], laidByText := true, laidKinds := [.data], laidTests := true, laidLooks := .later }
def EcoAnyCardSaid : Prop := Claim7.holds Tryd.pinned (.plain (OpenSpec.ofChange ecoAnySpec)) ecoAnyCard

/-- THE TIED CARD OF 'exegesislaw09.EcoThreads'. -/
def ecoThreadsCard : Claim7 := { stood := { row := ecoThreadsRow, standIns := [], harness := (true, "98d3f0245f6a3cccc727f15f8e63398ea30a41ce0c38cb88771cd13a109a4c23"), looks := false }, kinds := [], alts := [], laidByText := true, laidKinds := [.data], laidTests := true, laidLooks := .later }
def EcoThreadsCardSaid : Prop := Claim7.holds Tryd.pinned (.plain (OpenSpec.ofChange ecoThreadsSpec)) ecoThreadsCard

/-- THE TIED CARD OF 'exegesislaw10.SyncAny'. -/
def syncAnyCard : Claim7 := { stood := { row := syncAnyRow, standIns := [], harness := (true, "98d3f0245f6a3cccc727f15f8e63398ea30a41ce0c38cb88771cd13a109a4c23"), looks := false }, kinds := [], alts := [], laidByText := true, laidKinds := [.data], laidTests := true, laidLooks := .later }
def SyncAnyCardSaid : Prop := Claim7.holds Tryd.pinned (.plain (OpenSpec.ofChange syncAnySpec)) syncAnyCard

/-- THE TIED CARD OF 'exegesislaw19.PpoAny'. -/
def ppoAnyCard : Claim7 := { stood := { row := ppoAnyRow, standIns := [], harness := (true, "98d3f0245f6a3cccc727f15f8e63398ea30a41ce0c38cb88771cd13a109a4c23"), looks := false }, kinds := [], alts := [], laidByText := true, laidKinds := [.data], laidTests := true, laidLooks := .later }
def PpoAnyCardSaid : Prop := Claim7.holds Tryd.pinned (.plain (OpenSpec.ofChange ppoAnySpec)) ppoAnyCard

/-- THE SECOND FORM's CARD OF 'exegesislaw06.GraphPo'. -/
def graphPoUptoCard : Claim7 := { stood := { row := graphPoUptoRow, standIns := [], harness := (true, "98d3f0245f6a3cccc727f15f8e63398ea30a41ce0c38cb88771cd13a109a4c23"), looks := false }, kinds := [], alts := [], laidByText := true, laidKinds := [.data], laidTests := true, laidLooks := .later }
def GraphPoUptoCardSaid : Prop := Claim7.holds Tryd.pinned (.plain (OpenSpec.upto graphPoSpec)) graphPoUptoCard

/-- THE SECOND FORM's CARD OF 'exegesislaw09.EcoAny'. -/
def ecoAnyUptoCard : Claim7 := { stood := { row := ecoAnyUptoRow, standIns := [], harness := (true, "98d3f0245f6a3cccc727f15f8e63398ea30a41ce0c38cb88771cd13a109a4c23"), looks := false }, kinds := [], alts := [], laidByText := true, laidKinds := [.data], laidTests := true, laidLooks := .later }
def EcoAnyUptoCardSaid : Prop := Claim7.holds Tryd.pinned (.plain (OpenSpec.upto ecoAnySpec)) ecoAnyUptoCard

/-- THE SECOND FORM's CARD OF 'exegesislaw09.EcoThreads'. -/
def ecoThreadsUptoCard : Claim7 := { stood := { row := ecoThreadsUptoRow, standIns := [], harness := (true, "98d3f0245f6a3cccc727f15f8e63398ea30a41ce0c38cb88771cd13a109a4c23"), looks := false }, kinds := [], alts := [], laidByText := true, laidKinds := [.data], laidTests := true, laidLooks := .later }
def EcoThreadsUptoCardSaid : Prop := Claim7.holds Tryd.pinned (.plain (OpenSpec.upto ecoThreadsSpec)) ecoThreadsUptoCard

/-- THE SECOND FORM's CARD OF 'exegesislaw10.SyncAny'. -/
def syncAnyUptoCard : Claim7 := { stood := { row := syncAnyUptoRow, standIns := [], harness := (true, "98d3f0245f6a3cccc727f15f8e63398ea30a41ce0c38cb88771cd13a109a4c23"), looks := false }, kinds := [], alts := [], laidByText := true, laidKinds := [.data], laidTests := true, laidLooks := .later }
def SyncAnyUptoCardSaid : Prop := Claim7.holds Tryd.pinned (.plain (OpenSpec.upto syncAnySpec)) syncAnyUptoCard

/-- THE SECOND FORM's CARD OF 'exegesislaw19.PpoAny'. -/
def ppoAnyUptoCard : Claim7 := { stood := { row := ppoAnyUptoRow, standIns := [], harness := (true, "98d3f0245f6a3cccc727f15f8e63398ea30a41ce0c38cb88771cd13a109a4c23"), looks := false }, kinds := [], alts := [], laidByText := true, laidKinds := [.data], laidTests := true, laidLooks := .later }
def PpoAnyUptoCardSaid : Prop := Claim7.holds Tryd.pinned (.plain (OpenSpec.upto ppoAnySpec)) ppoAnyUptoCard
end Rows
end Go.Proofs.YthcnhbclagegeaaDoor
