/-
  DERIVED. GIVEN WITH THE SEED: THE CARDS: each row of YtmfemnillgnneaaDoorRows.lean that lists a variable, with what it lists TIED to the program's text (the seventh form; the later family's looks); each row that meets fmt, with fmt's text TOLD by the authors' own Lean function (tested against real Go, not proved from fmt's source: count such statements apart). THE CARD IS WHAT COUNTS. Prove the row's statement (the work); the ties are given (YtmfemnillgnneaaDoorTie.lean); close each card by the builder's one call (the guide's Derived/Test/ToyasCard.lean, 'card_holds'). Laid BY PROGRAM, IN A SANDBOX (cutbox-door.mjs). By AI agents, Wed Nov 11 2026. No macro, syntax, notation, axiom, sorry.
-/
import Derived.Test.YtmfemnillgnneaaDoorRows
import GoSem.ClaimSeven
namespace Go.Proofs.YtmfemnillgnneaaDoor
namespace Rows

/-- THE TIED CARD OF 'exegesislaw24.RulesKnown'. -/
def rulesKnownCard : Claim7 := { stood := { row := rulesKnownRow, standIns := [], harness := (true, "d5650de677c1519b3161b9cc37d1ac79bf0d8546c350d674f449fc21429b2b5a"), looks := false }, kinds := [], alts := [], laidByText := true, laidKinds := [.data], laidTests := true, laidLooks := .later }
def RulesKnownCardSaid : Prop := Claim7.holds Tryd.pinned (.plain (OpenSpec.ofChange rulesKnownSpec)) rulesKnownCard

/-- THE TIED CARD OF 'exegesislaw24.RulesTargets'. -/
def rulesTargetsCard : Claim7 := { stood := { row := rulesTargetsRow, standIns := [], harness := (true, "d5650de677c1519b3161b9cc37d1ac79bf0d8546c350d674f449fc21429b2b5a"), looks := false }, kinds := [], alts := [], laidByText := true, laidKinds := [.data], laidTests := true, laidLooks := .later }
def RulesTargetsCardSaid : Prop := Claim7.holds Tryd.pinned (.plain (OpenSpec.ofChange rulesTargetsSpec)) rulesTargetsCard

/-- THE TIED CARD OF 'exegesislaw24.RulesModes'. -/
def rulesModesCard : Claim7 := { stood := { row := rulesModesRow, standIns := [], harness := (true, "d5650de677c1519b3161b9cc37d1ac79bf0d8546c350d674f449fc21429b2b5a"), looks := false }, kinds := [], alts := [], laidByText := true, laidKinds := [.data], laidTests := true, laidLooks := .later }
def RulesModesCardSaid : Prop := Claim7.holds Tryd.pinned (.plain (OpenSpec.ofChange rulesModesSpec)) rulesModesCard

/-- THE SECOND FORM's CARD OF 'exegesislaw24.RulesKnown'. -/
def rulesKnownUptoCard : Claim7 := { stood := { row := rulesKnownUptoRow, standIns := [], harness := (true, "d5650de677c1519b3161b9cc37d1ac79bf0d8546c350d674f449fc21429b2b5a"), looks := false }, kinds := [], alts := [], laidByText := true, laidKinds := [.data], laidTests := true, laidLooks := .later }
def RulesKnownUptoCardSaid : Prop := Claim7.holds Tryd.pinned (.plain (OpenSpec.upto rulesKnownSpec)) rulesKnownUptoCard

/-- THE SECOND FORM's CARD OF 'exegesislaw24.RulesTargets'. -/
def rulesTargetsUptoCard : Claim7 := { stood := { row := rulesTargetsUptoRow, standIns := [], harness := (true, "d5650de677c1519b3161b9cc37d1ac79bf0d8546c350d674f449fc21429b2b5a"), looks := false }, kinds := [], alts := [], laidByText := true, laidKinds := [.data], laidTests := true, laidLooks := .later }
def RulesTargetsUptoCardSaid : Prop := Claim7.holds Tryd.pinned (.plain (OpenSpec.upto rulesTargetsSpec)) rulesTargetsUptoCard

/-- THE SECOND FORM's CARD OF 'exegesislaw24.RulesModes'. -/
def rulesModesUptoCard : Claim7 := { stood := { row := rulesModesUptoRow, standIns := [], harness := (true, "d5650de677c1519b3161b9cc37d1ac79bf0d8546c350d674f449fc21429b2b5a"), looks := false }, kinds := [], alts := [], laidByText := true, laidKinds := [.data], laidTests := true, laidLooks := .later }
def RulesModesUptoCardSaid : Prop := Claim7.holds Tryd.pinned (.plain (OpenSpec.upto rulesModesSpec)) rulesModesUptoCard
end Rows
end Go.Proofs.YtmfemnillgnneaaDoor
