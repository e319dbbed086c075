/-
  NARROWER THAN 'FOR EVERY INPUT', by the rows' own cells (each row's printed sentence says how): RulesKnown: laid · RulesTargets: laid · RulesModes: laid.
  DERIVED. THE GIVEN ROWS OF THIS SEAT. 3 by the template 'for every input the law returns true; each argument reads behind the call as it read before'; 0 by the template 'total and deterministic' (their statements: YtmfemnillgnneaaDoorTotals.lean).
  GIVEN WITH THE SEED: the statements are not yours to turn. If you find one false, say at which input.
  Laid BY PROGRAM, IN A SANDBOX (cutbox-rows.mjs): the forced cells as the released guide's own fill.sh prints them over the translation 9c8df25ac6a00dc2… (all of the seat's roots in one cut). By AI agents, Wed Nov 11 2026. No macro, syntax, notation, axiom, sorry.
-/
import Derived.Test.YtmfemnillgnneaaDoorChecked
import GoSem.Claim
import GoSem.ClaimJoined
import GoSem.ClaimMapViews
import Derived.JoinedTies
import Derived.KernelRfl
namespace Go.Proofs.YtmfemnillgnneaaDoor
/- THE CELL 'sum', in the pinned program and in every row, IS THE sha256 OF THE DUMP (.gsa) THAT YtmfemnillgnneaaDoorProg.lean LOADS. Nothing in Lean hashes anything: it is a label: what it is worth is what the hold of that sum in a sandbox is worth. -/
noncomputable def Tryd.pinned : Pinned := { name := "ytmfemnillgnneaadoor", sum := "9c8df25ac6a00dc2e5fafd70ec061bd85aa8abb164980b793ea6780b7f09ec5c", checked := Tryd.checked }
namespace Rows
def none {H : Type} : Left H := { results := [], args := [] }

/- WHAT THE LISTED PACKAGE-LEVEL VARIABLES READ AS WHEN THE CALL BEGINS. Each datum BY PROGRAM (the guide's laid-datum.mjs) off the statement by which the dump's own 'gosem.cut.vars' lays the variable. In a bare row this is a premise. The card (YtmfemnillgnneaaDoorCards.lean) ties it to the program's text. -/
def laid_exegesis_sound_kinds {H : Type} : DataW H := .agg [.agg [.lit (.int .i64 0), .lit (.int .i64 0), .lit (.bool false), .lit (.bool false), .lit (.bool false), .lit (.int .i64 0), .lit (.bool false), .lit (.int .i64 0)], .agg [.lit (.int .i64 3), .lit (.int .i64 1), .lit (.bool true), .lit (.bool true), .lit (.bool false), .lit (.int .i64 0), .lit (.bool false), .lit (.int .i64 1)], .agg [.lit (.int .i64 5), .lit (.int .i64 1), .lit (.bool false), .lit (.bool true), .lit (.bool false), .lit (.int .i64 9), .lit (.bool false), .lit (.int .i64 1)], .agg [.lit (.int .i64 30), .lit (.int .i64 1), .lit (.bool false), .lit (.bool false), .lit (.bool false), .lit (.int .i64 0), .lit (.bool false), .lit (.int .i64 1)], .agg [.lit (.int .i64 3), .lit (.int .i64 5), .lit (.bool true), .lit (.bool true), .lit (.bool false), .lit (.int .i64 7), .lit (.bool true), .lit (.int .i64 2)], .agg [.lit (.int .i64 1), .lit (.int .i64 1), .lit (.bool true), .lit (.bool false), .lit (.bool false), .lit (.int .i64 9), .lit (.bool false), .lit (.int .i64 0)], .agg [.lit (.int .i64 1), .lit (.int .i64 1), .lit (.bool false), .lit (.bool false), .lit (.bool true), .lit (.int .i64 9), .lit (.bool false), .lit (.int .i64 0)]]

/-- 'exegesislaw24.RulesKnown': WHATEVER THE INPUT: true; the input reads as it did. -/
def rulesKnownSpec : ChangeSpec := { name := "rulesKnown", fn := fun _ => fun
  | [d] => { results := [.lit (.bool true)], args := [d] }
  | _ => none }
def rulesKnownRow : OpenClaim := { program := "ytmfemnillgnneaadoor", sum := "9c8df25ac6a00dc2e5fafd70ec061bd85aa8abb164980b793ea6780b7f09ec5c", func := "exegesis/exegesislaw24.RulesKnown", spec := "rulesKnown", inPlace := ["slices.overlaps[exegesis/api.Instr]"], unfollowed := true, recurses := true, named := ["exegesis/sound.kinds"], apart := false, laid := [("exegesis/sound.kinds", laid_exegesis_sound_kinds)] }
def RulesKnownSaid : Prop := rulesKnownRow.holds Tryd.pinned (OpenSpec.ofChange rulesKnownSpec)

/-- ITS FALSE NEIGHBOUR: 'it returns false'. Refute it at one input. -/
def rulesKnownWrong : ChangeSpec := { name := "rulesKnown", fn := fun _ => fun
  | [d] => { results := [.lit (.bool false)], args := [d] }
  | _ => none }
def RulesKnownWrongFalsely : Prop := rulesKnownRow.holds Tryd.pinned (OpenSpec.ofChange rulesKnownWrong)

/-- 'exegesislaw24.RulesTargets': WHATEVER THE INPUT: true; the input reads as it did. -/
def rulesTargetsSpec : ChangeSpec := { name := "rulesTargets", fn := fun _ => fun
  | [d1, d2, d3] => { results := [.lit (.bool true)], args := [d1, d2, d3] }
  | _ => none }
def rulesTargetsRow : OpenClaim := { program := "ytmfemnillgnneaadoor", sum := "9c8df25ac6a00dc2e5fafd70ec061bd85aa8abb164980b793ea6780b7f09ec5c", func := "exegesis/exegesislaw24.RulesTargets", spec := "rulesTargets", inPlace := ["slices.overlaps[exegesis/api.Instr]"], unfollowed := true, recurses := true, named := ["exegesis/sound.kinds"], apart := false, laid := [("exegesis/sound.kinds", laid_exegesis_sound_kinds)] }
def RulesTargetsSaid : Prop := rulesTargetsRow.holds Tryd.pinned (OpenSpec.ofChange rulesTargetsSpec)

/-- ITS FALSE NEIGHBOUR: 'it returns false'. Refute it at one input. -/
def rulesTargetsWrong : ChangeSpec := { name := "rulesTargets", fn := fun _ => fun
  | [d1, d2, d3] => { results := [.lit (.bool false)], args := [d1, d2, d3] }
  | _ => none }
def RulesTargetsWrongFalsely : Prop := rulesTargetsRow.holds Tryd.pinned (OpenSpec.ofChange rulesTargetsWrong)

/-- 'exegesislaw24.RulesModes': WHATEVER THE INPUT: true; the input reads as it did. -/
def rulesModesSpec : ChangeSpec := { name := "rulesModes", fn := fun _ => fun
  | [d1, d2] => { results := [.lit (.bool true)], args := [d1, d2] }
  | _ => none }
def rulesModesRow : OpenClaim := { program := "ytmfemnillgnneaadoor", sum := "9c8df25ac6a00dc2e5fafd70ec061bd85aa8abb164980b793ea6780b7f09ec5c", func := "exegesis/exegesislaw24.RulesModes", spec := "rulesModes", inPlace := ["slices.overlaps[exegesis/api.Instr]"], unfollowed := true, recurses := true, named := ["exegesis/sound.kinds"], apart := false, laid := [("exegesis/sound.kinds", laid_exegesis_sound_kinds)] }
def RulesModesSaid : Prop := rulesModesRow.holds Tryd.pinned (OpenSpec.ofChange rulesModesSpec)

/-- ITS FALSE NEIGHBOUR: 'it returns false'. Refute it at one input. -/
def rulesModesWrong : ChangeSpec := { name := "rulesModes", fn := fun _ => fun
  | [d1, d2] => { results := [.lit (.bool false)], args := [d1, d2] }
  | _ => none }
def RulesModesWrongFalsely : Prop := rulesModesRow.holds Tryd.pinned (OpenSpec.ofChange rulesModesWrong)

/- THE SECOND FORM. 'bulk': how many values and letters a reading holds, each counted each time it is reached (what is shared counts as often as it is met; a slice's spare places count too). A statement '..UptoSaid' is the law's where the arguments, and the package variables that the reading takes, are together of bulk at most 1048576: NARROWER than '..Said'. Prove '..Said' where nothing that the law and all that it calls make is longer than what came in: it says more and counts as full. Else prove '..UptoSaid'. A law counts once. -/
mutual
def uptoBulk {H : Type} : DataW H → Nat
  | .lit (.string bytes) => bytes.length + 1
  | .lit _ => 1
  | .nil => 1
  | .ptr d => uptoBulk d + 1
  | .slice elems spare => uptoBulkAll elems + uptoBulkAll spare + 1
  | .agg parts => uptoBulkAll parts + 1
  | .iface _ d => uptoBulk d + 1
  | .map entries => uptoBulkEntries entries + 1
  | .held _ => 1
def uptoBulkAll {H : Type} : List (DataW H) → Nat
  | [] => 0
  | d :: r => uptoBulk d + uptoBulkAll r
def uptoBulkEntries {H : Type} : List (Lit × DataW H) → Nat
  | [] => 0
  | x :: r => uptoBulkEntry x + uptoBulkEntries r
def uptoBulkEntry {H : Type} : Lit × DataW H → Nat
  | (.string bytes, d) => bytes.length + uptoBulk d + 1
  | (_, d) => uptoBulk d + 1
 end
def uptoSmall : (H : Type) → List (DataW H) → Bool := fun _ ds => decide (uptoBulkAll ds ≤ 1048576)
def OpenSpec.upto (s : _root_.Go.ChangeSpec) : _root_.Go.OpenSpec := { _root_.Go.OpenSpec.ofChange s with cond := some uptoSmall }

/-- 'exegesislaw24.RulesKnown', WHERE WHAT IT READS IS OF BULK AT MOST 1048576: true; the input reads as it did. -/
def rulesKnownUptoRow : OpenClaim := { program := "ytmfemnillgnneaadoor", sum := "9c8df25ac6a00dc2e5fafd70ec061bd85aa8abb164980b793ea6780b7f09ec5c", func := "exegesis/exegesislaw24.RulesKnown", spec := "rulesKnown", inPlace := ["slices.overlaps[exegesis/api.Instr]"], unfollowed := true, recurses := true, named := ["exegesis/sound.kinds"], apart := false, laid := [("exegesis/sound.kinds", laid_exegesis_sound_kinds)], narrowed := true }
def RulesKnownUptoSaid : Prop := rulesKnownUptoRow.holds Tryd.pinned (OpenSpec.upto rulesKnownSpec)

/-- 'exegesislaw24.RulesTargets', WHERE WHAT IT READS IS OF BULK AT MOST 1048576: true; the input reads as it did. -/
def rulesTargetsUptoRow : OpenClaim := { program := "ytmfemnillgnneaadoor", sum := "9c8df25ac6a00dc2e5fafd70ec061bd85aa8abb164980b793ea6780b7f09ec5c", func := "exegesis/exegesislaw24.RulesTargets", spec := "rulesTargets", inPlace := ["slices.overlaps[exegesis/api.Instr]"], unfollowed := true, recurses := true, named := ["exegesis/sound.kinds"], apart := false, laid := [("exegesis/sound.kinds", laid_exegesis_sound_kinds)], narrowed := true }
def RulesTargetsUptoSaid : Prop := rulesTargetsUptoRow.holds Tryd.pinned (OpenSpec.upto rulesTargetsSpec)

/-- 'exegesislaw24.RulesModes', WHERE WHAT IT READS IS OF BULK AT MOST 1048576: true; the input reads as it did. -/
def rulesModesUptoRow : OpenClaim := { program := "ytmfemnillgnneaadoor", sum := "9c8df25ac6a00dc2e5fafd70ec061bd85aa8abb164980b793ea6780b7f09ec5c", func := "exegesis/exegesislaw24.RulesModes", spec := "rulesModes", inPlace := ["slices.overlaps[exegesis/api.Instr]"], unfollowed := true, recurses := true, named := ["exegesis/sound.kinds"], apart := false, laid := [("exegesis/sound.kinds", laid_exegesis_sound_kinds)], narrowed := true }
def RulesModesUptoSaid : Prop := rulesModesUptoRow.holds Tryd.pinned (OpenSpec.upto rulesModesSpec)

end Rows
end Go.Proofs.YtmfemnillgnneaaDoor
