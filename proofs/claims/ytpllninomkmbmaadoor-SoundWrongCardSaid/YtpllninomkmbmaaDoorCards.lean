/-
  DERIVED. GIVEN WITH THE SEED: THE CARDS: each row of YtpllninomkmbmaaDoorRows.lean that lists a variable, with what it lists TIED to the program's text (the seventh form; the later family's looks); each row that meets fmt, with fmt's text TOLD by the authors' own Lean function (tested against real Go, not proved from fmt's source: count such statements apart). THE CARD IS WHAT COUNTS. Prove the row's statement (the work); the ties are given (YtpllninomkmbmaaDoorTie.lean); close each card by the builder's one call (the guide's Derived/Test/ToyasCard.lean, 'card_holds'). Laid BY PROGRAM, IN A SANDBOX (cutbox-door.mjs). By AI agents, Wed Nov 11 2026. No macro, syntax, notation, axiom, sorry.
-/
import Derived.Test.YtpllninomkmbmaaDoorRows
import GoSem.ClaimSeven
namespace Go.Proofs.YtpllninomkmbmaaDoor
namespace Rows

/-- THE TIED CARD OF 'exegesislaw25.CertWrong'. -/
def certWrongCard : Claim7 := { stood := { row := certWrongRow, standIns := [], harness := (true, "ab8c98d387b61509db921e44f18e5461895c147be05aae0174bb0be92db24a49"), looks := true }, kinds := [], alts := [], laidByText := true, laidKinds := [.data, .data, .data, .data, .sentinel, .sentinel, .pinned], laidTests := true, laidLooks := .later }
def CertWrongCardSaid : Prop := Claim7.holds Tryd.pinned (.plain (OpenSpec.ofChange certWrongSpec)) certWrongCard

/-- THE TIED CARD OF 'exegesislaw16.LowerTable'. -/
def lowerTableCard : Claim7 := { stood := { row := lowerTableRow, standIns := [], harness := (true, "ab8c98d387b61509db921e44f18e5461895c147be05aae0174bb0be92db24a49"), looks := true }, kinds := [], alts := [], laidByText := true, laidKinds := [.data], laidTests := true, laidLooks := .later }
def LowerTableCardSaid : Prop := Claim7.holds Tryd.pinned (.plain (OpenSpec.ofChange lowerTableSpec)) lowerTableCard

/-- THE TIED CARD OF 'exegesislaw24.RulesKnown'. -/
def rulesKnownCard : Claim7 := { stood := { row := rulesKnownRow, standIns := [], harness := (true, "ab8c98d387b61509db921e44f18e5461895c147be05aae0174bb0be92db24a49"), looks := true }, kinds := [], alts := [], laidByText := true, laidKinds := [.data], laidTests := true, laidLooks := .later }
def RulesKnownCardSaid : Prop := Claim7.holds Tryd.pinned (.plain (OpenSpec.ofChange rulesKnownSpec)) rulesKnownCard

/-- THE TIED CARD OF 'exegesislaw24.RulesTargets'. -/
def rulesTargetsCard : Claim7 := { stood := { row := rulesTargetsRow, standIns := [], harness := (true, "ab8c98d387b61509db921e44f18e5461895c147be05aae0174bb0be92db24a49"), looks := true }, kinds := [], alts := [], laidByText := true, laidKinds := [.data], laidTests := true, laidLooks := .later }
def RulesTargetsCardSaid : Prop := Claim7.holds Tryd.pinned (.plain (OpenSpec.ofChange rulesTargetsSpec)) rulesTargetsCard

/-- THE TIED CARD OF 'exegesislaw24.RulesModes'. -/
def rulesModesCard : Claim7 := { stood := { row := rulesModesRow, standIns := [], harness := (true, "ab8c98d387b61509db921e44f18e5461895c147be05aae0174bb0be92db24a49"), looks := true }, kinds := [], alts := [], laidByText := true, laidKinds := [.data], laidTests := true, laidLooks := .later }
def RulesModesCardSaid : Prop := Claim7.holds Tryd.pinned (.plain (OpenSpec.ofChange rulesModesSpec)) rulesModesCard

/-- THE TIED CARD OF 'exegesislaw04.SoundWrong'. -/
def soundWrongCard : Claim7 := { stood := { row := soundWrongRow, standIns := [], harness := (true, "ab8c98d387b61509db921e44f18e5461895c147be05aae0174bb0be92db24a49"), looks := true }, kinds := [], alts := [], laidByText := true, laidKinds := [.data], laidTests := true, laidLooks := .later }
def SoundWrongCardSaid : Prop := Claim7.holds Tryd.pinned (.plain (OpenSpec.ofChange soundWrongSpec)) soundWrongCard

/-- THE SECOND FORM's CARD OF 'exegesislaw25.CertWrong'. -/
def certWrongUptoCard : Claim7 := { stood := { row := certWrongUptoRow, standIns := [], harness := (true, "ab8c98d387b61509db921e44f18e5461895c147be05aae0174bb0be92db24a49"), looks := true }, kinds := [], alts := [], laidByText := true, laidKinds := [.data, .data, .data, .data, .sentinel, .sentinel, .pinned], laidTests := true, laidLooks := .later }
def CertWrongUptoCardSaid : Prop := Claim7.holds Tryd.pinned (.plain (OpenSpec.upto certWrongSpec)) certWrongUptoCard

/-- THE SECOND FORM's CARD OF 'exegesislaw16.LowerTable'. -/
def lowerTableUptoCard : Claim7 := { stood := { row := lowerTableUptoRow, standIns := [], harness := (true, "ab8c98d387b61509db921e44f18e5461895c147be05aae0174bb0be92db24a49"), looks := true }, kinds := [], alts := [], laidByText := true, laidKinds := [.data], laidTests := true, laidLooks := .later }
def LowerTableUptoCardSaid : Prop := Claim7.holds Tryd.pinned (.plain (OpenSpec.upto lowerTableSpec)) lowerTableUptoCard

/-- THE SECOND FORM's CARD OF 'exegesislaw24.RulesKnown'. -/
def rulesKnownUptoCard : Claim7 := { stood := { row := rulesKnownUptoRow, standIns := [], harness := (true, "ab8c98d387b61509db921e44f18e5461895c147be05aae0174bb0be92db24a49"), looks := true }, kinds := [], alts := [], laidByText := true, laidKinds := [.data], laidTests := true, laidLooks := .later }
def RulesKnownUptoCardSaid : Prop := Claim7.holds Tryd.pinned (.plain (OpenSpec.upto rulesKnownSpec)) rulesKnownUptoCard

/-- THE SECOND FORM's CARD OF 'exegesislaw24.RulesTargets'. -/
def rulesTargetsUptoCard : Claim7 := { stood := { row := rulesTargetsUptoRow, standIns := [], harness := (true, "ab8c98d387b61509db921e44f18e5461895c147be05aae0174bb0be92db24a49"), looks := true }, kinds := [], alts := [], laidByText := true, laidKinds := [.data], laidTests := true, laidLooks := .later }
def RulesTargetsUptoCardSaid : Prop := Claim7.holds Tryd.pinned (.plain (OpenSpec.upto rulesTargetsSpec)) rulesTargetsUptoCard

/-- THE SECOND FORM's CARD OF 'exegesislaw24.RulesModes'. -/
def rulesModesUptoCard : Claim7 := { stood := { row := rulesModesUptoRow, standIns := [], harness := (true, "ab8c98d387b61509db921e44f18e5461895c147be05aae0174bb0be92db24a49"), looks := true }, kinds := [], alts := [], laidByText := true, laidKinds := [.data], laidTests := true, laidLooks := .later }
def RulesModesUptoCardSaid : Prop := Claim7.holds Tryd.pinned (.plain (OpenSpec.upto rulesModesSpec)) rulesModesUptoCard

/-- THE SECOND FORM's CARD OF 'exegesislaw04.SoundWrong'. -/
def soundWrongUptoCard : Claim7 := { stood := { row := soundWrongUptoRow, standIns := [], harness := (true, "ab8c98d387b61509db921e44f18e5461895c147be05aae0174bb0be92db24a49"), looks := true }, kinds := [], alts := [], laidByText := true, laidKinds := [.data], laidTests := true, laidLooks := .later }
def SoundWrongUptoCardSaid : Prop := Claim7.holds Tryd.pinned (.plain (OpenSpec.upto soundWrongSpec)) soundWrongUptoCard
end Rows
end Go.Proofs.YtpllninomkmbmaaDoor
