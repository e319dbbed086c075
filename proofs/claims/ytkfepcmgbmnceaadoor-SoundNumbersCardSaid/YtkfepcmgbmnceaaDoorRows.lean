/-
  NARROWER THAN 'FOR EVERY INPUT', by the rows' own cells (each row's printed sentence says how): SoundNumbers: laid · SoundBounds: laid · SoundWrong: laid.
  DERIVED. THE GIVEN ROWS OF THIS SEAT. 3 by the template 'for every input the law returns true; each argument reads behind the call as it read before'; 0 by the template 'total and deterministic' (their statements: YtkfepcmgbmnceaaDoorTotals.lean).
  GIVEN WITH THE SEED: the statements are not yours to turn. If you find one false, say at which input.
  Laid BY PROGRAM, IN A SANDBOX (cutbox-rows.mjs): the forced cells as the released guide's own fill.sh prints them over the translation d5b781cc9fb18c99… (all of the seat's roots in one cut). By AI agents, Wed Nov 11 2026. No macro, syntax, notation, axiom, sorry.
-/
import Derived.Test.YtkfepcmgbmnceaaDoorChecked
import GoSem.Claim
import GoSem.ClaimJoined
import GoSem.ClaimMapViews
import Derived.JoinedTies
import Derived.KernelRfl
namespace Go.Proofs.YtkfepcmgbmnceaaDoor
/- THE CELL 'sum', in the pinned program and in every row, IS THE sha256 OF THE DUMP (.gsa) THAT YtkfepcmgbmnceaaDoorProg.lean LOADS. Nothing in Lean hashes anything: it is a label: what it is worth is what the hold of that sum in a sandbox is worth. -/
noncomputable def Tryd.pinned : Pinned := { name := "ytkfepcmgbmnceaadoor", sum := "d5b781cc9fb18c99019756ab751ac1a9c685a60403a6a3203dee9f969f9d96f8", checked := Tryd.checked }
namespace Rows
def none {H : Type} : Left H := { results := [], args := [] }

/- WHAT THE LISTED PACKAGE-LEVEL VARIABLES READ AS WHEN THE CALL BEGINS. Each datum BY PROGRAM (the guide's laid-datum.mjs) off the statement by which the dump's own 'gosem.cut.vars' lays the variable. In a bare row this is a premise. The card (YtkfepcmgbmnceaaDoorCards.lean) ties it to the program's text. -/
def laid_exegesis_sound_kinds {H : Type} : DataW H := .agg [.agg [.lit (.int .i64 0), .lit (.int .i64 0), .lit (.bool false), .lit (.bool false), .lit (.bool false), .lit (.int .i64 0), .lit (.bool false), .lit (.int .i64 0)], .agg [.lit (.int .i64 3), .lit (.int .i64 1), .lit (.bool true), .lit (.bool true), .lit (.bool false), .lit (.int .i64 0), .lit (.bool false), .lit (.int .i64 1)], .agg [.lit (.int .i64 5), .lit (.int .i64 1), .lit (.bool false), .lit (.bool true), .lit (.bool false), .lit (.int .i64 9), .lit (.bool false), .lit (.int .i64 1)], .agg [.lit (.int .i64 30), .lit (.int .i64 1), .lit (.bool false), .lit (.bool false), .lit (.bool false), .lit (.int .i64 0), .lit (.bool false), .lit (.int .i64 1)], .agg [.lit (.int .i64 3), .lit (.int .i64 5), .lit (.bool true), .lit (.bool true), .lit (.bool false), .lit (.int .i64 7), .lit (.bool true), .lit (.int .i64 2)], .agg [.lit (.int .i64 1), .lit (.int .i64 1), .lit (.bool true), .lit (.bool false), .lit (.bool false), .lit (.int .i64 9), .lit (.bool false), .lit (.int .i64 0)], .agg [.lit (.int .i64 1), .lit (.int .i64 1), .lit (.bool false), .lit (.bool false), .lit (.bool true), .lit (.int .i64 9), .lit (.bool false), .lit (.int .i64 0)]]

/-- 'exegesislaw04.SoundNumbers': WHATEVER THE INPUT: true; the input reads as it did. -/
def soundNumbersSpec : ChangeSpec := { name := "soundNumbers", fn := fun _ => fun
  | [d1, d2, d3] => { results := [.lit (.bool true)], args := [d1, d2, d3] }
  | _ => none }
def soundNumbersRow : OpenClaim := { program := "ytkfepcmgbmnceaadoor", sum := "d5b781cc9fb18c99019756ab751ac1a9c685a60403a6a3203dee9f969f9d96f8", func := "exegesis/exegesislaw04.SoundNumbers", spec := "soundNumbers", recurses := true, named := ["exegesis/sound.kinds"], apart := false, laid := [("exegesis/sound.kinds", laid_exegesis_sound_kinds)] }
def SoundNumbersSaid : Prop := soundNumbersRow.holds Tryd.pinned (OpenSpec.ofChange soundNumbersSpec)

/-- ITS FALSE NEIGHBOUR: 'it returns false'. Refute it at one input. -/
def soundNumbersWrong : ChangeSpec := { name := "soundNumbers", fn := fun _ => fun
  | [d1, d2, d3] => { results := [.lit (.bool false)], args := [d1, d2, d3] }
  | _ => none }
def SoundNumbersWrongFalsely : Prop := soundNumbersRow.holds Tryd.pinned (OpenSpec.ofChange soundNumbersWrong)

/-- 'exegesislaw04.SoundBounds': WHATEVER THE INPUT: true; the input reads as it did. -/
def soundBoundsSpec : ChangeSpec := { name := "soundBounds", fn := fun _ => fun
  | [d1, d2] => { results := [.lit (.bool true)], args := [d1, d2] }
  | _ => none }
def soundBoundsRow : OpenClaim := { program := "ytkfepcmgbmnceaadoor", sum := "d5b781cc9fb18c99019756ab751ac1a9c685a60403a6a3203dee9f969f9d96f8", func := "exegesis/exegesislaw04.SoundBounds", spec := "soundBounds", recurses := true, named := ["exegesis/sound.kinds"], apart := false, laid := [("exegesis/sound.kinds", laid_exegesis_sound_kinds)] }
def SoundBoundsSaid : Prop := soundBoundsRow.holds Tryd.pinned (OpenSpec.ofChange soundBoundsSpec)

/-- ITS FALSE NEIGHBOUR: 'it returns false'. Refute it at one input. -/
def soundBoundsWrong : ChangeSpec := { name := "soundBounds", fn := fun _ => fun
  | [d1, d2] => { results := [.lit (.bool false)], args := [d1, d2] }
  | _ => none }
def SoundBoundsWrongFalsely : Prop := soundBoundsRow.holds Tryd.pinned (OpenSpec.ofChange soundBoundsWrong)

/-- 'exegesislaw04.SoundWrong': WHATEVER THE INPUT: true; the input reads as it did. -/
def soundWrongSpec : ChangeSpec := { name := "soundWrong", fn := fun _ => fun
  | [d1, d2] => { results := [.lit (.bool true)], args := [d1, d2] }
  | _ => none }
def soundWrongRow : OpenClaim := { program := "ytkfepcmgbmnceaadoor", sum := "d5b781cc9fb18c99019756ab751ac1a9c685a60403a6a3203dee9f969f9d96f8", func := "exegesis/exegesislaw04.SoundWrong", spec := "soundWrong", recurses := true, named := ["exegesis/sound.kinds"], apart := false, laid := [("exegesis/sound.kinds", laid_exegesis_sound_kinds)] }
def SoundWrongSaid : Prop := soundWrongRow.holds Tryd.pinned (OpenSpec.ofChange soundWrongSpec)

/-- ITS FALSE NEIGHBOUR: 'it returns false'. Refute it at one input. -/
def soundWrongWrong : ChangeSpec := { name := "soundWrong", fn := fun _ => fun
  | [d1, d2] => { results := [.lit (.bool false)], args := [d1, d2] }
  | _ => none }
def SoundWrongWrongFalsely : Prop := soundWrongRow.holds Tryd.pinned (OpenSpec.ofChange soundWrongWrong)

/- THE SECOND FORM. 'bulk': how many values and letters a reading holds, each counted each time it is reached (what is shared counts as often as it is met; a slice's spare places count too). A statement '..UptoSaid' is the law's where the arguments, and the package variables that the reading takes, are together of bulk at most 1048576: NARROWER than '..Said'. Prove '..Said' where nothing that the law and all that it calls make is longer than what came in: it says more and counts as full. Else prove '..UptoSaid'. A law counts once. -/
mutual
def uptoBulk {H : Type} : DataW H → Nat
  | .lit (.string bytes) => bytes.length + 1
  | .lit _ => 1
  | .nil => 1
  | .ptr d => uptoBulk d + 1
  | .slice elems spare => uptoBulkAll elems + uptoBulkAll spare + 1
  | .agg parts => uptoBulkAll parts + 1
  | .iface _ d => uptoBulk d + 1
  | .map entries => uptoBulkEntries entries + 1
  | .held _ => 1
def uptoBulkAll {H : Type} : List (DataW H) → Nat
  | [] => 0
  | d :: r => uptoBulk d + uptoBulkAll r
def uptoBulkEntries {H : Type} : List (Lit × DataW H) → Nat
  | [] => 0
  | x :: r => uptoBulkEntry x + uptoBulkEntries r
def uptoBulkEntry {H : Type} : Lit × DataW H → Nat
  | (.string bytes, d) => bytes.length + uptoBulk d + 1
  | (_, d) => uptoBulk d + 1
 end
def uptoSmall : (H : Type) → List (DataW H) → Bool := fun _ ds => decide (uptoBulkAll ds ≤ 1048576)
def OpenSpec.upto (s : _root_.Go.ChangeSpec) : _root_.Go.OpenSpec := { _root_.Go.OpenSpec.ofChange s with cond := some uptoSmall }

/-- 'exegesislaw04.SoundNumbers', WHERE WHAT IT READS IS OF BULK AT MOST 1048576: true; the input reads as it did. -/
def soundNumbersUptoRow : OpenClaim := { program := "ytkfepcmgbmnceaadoor", sum := "d5b781cc9fb18c99019756ab751ac1a9c685a60403a6a3203dee9f969f9d96f8", func := "exegesis/exegesislaw04.SoundNumbers", spec := "soundNumbers", recurses := true, named := ["exegesis/sound.kinds"], apart := false, laid := [("exegesis/sound.kinds", laid_exegesis_sound_kinds)], narrowed := true }
def SoundNumbersUptoSaid : Prop := soundNumbersUptoRow.holds Tryd.pinned (OpenSpec.upto soundNumbersSpec)

/-- 'exegesislaw04.SoundBounds', WHERE WHAT IT READS IS OF BULK AT MOST 1048576: true; the input reads as it did. -/
def soundBoundsUptoRow : OpenClaim := { program := "ytkfepcmgbmnceaadoor", sum := "d5b781cc9fb18c99019756ab751ac1a9c685a60403a6a3203dee9f969f9d96f8", func := "exegesis/exegesislaw04.SoundBounds", spec := "soundBounds", recurses := true, named := ["exegesis/sound.kinds"], apart := false, laid := [("exegesis/sound.kinds", laid_exegesis_sound_kinds)], narrowed := true }
def SoundBoundsUptoSaid : Prop := soundBoundsUptoRow.holds Tryd.pinned (OpenSpec.upto soundBoundsSpec)

/-- 'exegesislaw04.SoundWrong', WHERE WHAT IT READS IS OF BULK AT MOST 1048576: true; the input reads as it did. -/
def soundWrongUptoRow : OpenClaim := { program := "ytkfepcmgbmnceaadoor", sum := "d5b781cc9fb18c99019756ab751ac1a9c685a60403a6a3203dee9f969f9d96f8", func := "exegesis/exegesislaw04.SoundWrong", spec := "soundWrong", recurses := true, named := ["exegesis/sound.kinds"], apart := false, laid := [("exegesis/sound.kinds", laid_exegesis_sound_kinds)], narrowed := true }
def SoundWrongUptoSaid : Prop := soundWrongUptoRow.holds Tryd.pinned (OpenSpec.upto soundWrongSpec)

end Rows
end Go.Proofs.YtkfepcmgbmnceaaDoor
