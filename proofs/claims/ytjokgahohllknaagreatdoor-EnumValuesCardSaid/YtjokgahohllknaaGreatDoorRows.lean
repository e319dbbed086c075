/-
  NARROWER THAN 'FOR EVERY INPUT', by the rows' own cells (each row's printed sentence says how): EnumCounts: laid · EnumValues: laid · EnumThreads: laid.
  DERIVED. THE GIVEN ROWS OF THIS SEAT. 3 by the template 'for every input the law returns true; each argument reads behind the call as it read before'; 0 by the template 'total and deterministic' (their statements: YtjokgahohllknaaGreatDoorTotals.lean).
  GIVEN WITH THE SEED: the statements are not yours to turn. If you find one false, say at which input.
  Laid BY PROGRAM, IN A SANDBOX (cutbox-rows.mjs): the forced cells as the released guide's own fill.sh prints them over the translation e0d4a5c2a2fa5065… (all of the seat's roots in one cut). By AI agents, Wed Nov 11 2026. No macro, syntax, notation, axiom, sorry.
-/
import Derived.Test.YtjokgahohllknaaGreatDoorChecked
import GoSem.Claim
import GoSem.ClaimJoined
import GoSem.ClaimMapViews
import Derived.JoinedTies
import Derived.KernelRfl
namespace Go.Proofs.YtjokgahohllknaaGreatDoor
/- THE CELL 'sum', in the pinned program and in every row, IS THE sha256 OF THE DUMP (.gsa) THAT YtjokgahohllknaaGreatDoorProg.lean LOADS. Nothing in Lean hashes anything: it is a label: what it is worth is what the hold of that sum in a sandbox is worth. -/
noncomputable def Tryz.pinned : Pinned := { name := "ytjokgahohllknaagreatdoor", sum := "e0d4a5c2a2fa506501c8b66b3c14bbd84ff284c0ec72032fd6a38a6ef294dce0", checked := Tryz.checked }
namespace Rows
def none {H : Type} : Left H := { results := [], args := [] }

/- WHAT THE LISTED PACKAGE-LEVEL VARIABLES READ AS WHEN THE CALL BEGINS. Each datum BY PROGRAM (the guide's laid-datum.mjs) off the statement by which the dump's own 'gosem.cut.vars' lays the variable. In a bare row this is a premise. The card (YtjokgahohllknaaGreatDoorCards.lean) ties it to the program's text. -/
def laid_exegesis_sound_kinds {H : Type} : DataW H := .agg [.agg [.lit (.int .i64 0), .lit (.int .i64 0), .lit (.bool false), .lit (.bool false), .lit (.bool false), .lit (.int .i64 0), .lit (.bool false), .lit (.int .i64 0)], .agg [.lit (.int .i64 3), .lit (.int .i64 1), .lit (.bool true), .lit (.bool true), .lit (.bool false), .lit (.int .i64 0), .lit (.bool false), .lit (.int .i64 1)], .agg [.lit (.int .i64 5), .lit (.int .i64 1), .lit (.bool false), .lit (.bool true), .lit (.bool false), .lit (.int .i64 9), .lit (.bool false), .lit (.int .i64 1)], .agg [.lit (.int .i64 30), .lit (.int .i64 1), .lit (.bool false), .lit (.bool false), .lit (.bool false), .lit (.int .i64 0), .lit (.bool false), .lit (.int .i64 1)], .agg [.lit (.int .i64 3), .lit (.int .i64 5), .lit (.bool true), .lit (.bool true), .lit (.bool false), .lit (.int .i64 7), .lit (.bool true), .lit (.int .i64 2)], .agg [.lit (.int .i64 1), .lit (.int .i64 1), .lit (.bool true), .lit (.bool false), .lit (.bool false), .lit (.int .i64 9), .lit (.bool false), .lit (.int .i64 0)], .agg [.lit (.int .i64 1), .lit (.int .i64 1), .lit (.bool false), .lit (.bool false), .lit (.bool true), .lit (.int .i64 9), .lit (.bool false), .lit (.int .i64 0)]]

/-- 'exegesislaw13.EnumCounts': WHATEVER THE INPUT: true; the input reads as it did. -/
def enumCountsSpec : ChangeSpec := { name := "enumCounts", fn := fun _ => fun
  | [d1, d2] => { results := [.lit (.bool true)], args := [d1, d2] }
  | _ => none }
def enumCountsRow : OpenClaim := { program := "ytjokgahohllknaagreatdoor", sum := "e0d4a5c2a2fa506501c8b66b3c14bbd84ff284c0ec72032fd6a38a6ef294dce0", func := "exegesis/exegesislaw13.EnumCounts", spec := "enumCounts", unfollowed := true, recurses := true, named := ["exegesis/sound.kinds"], plainKeys := false, apart := false, laid := [("exegesis/sound.kinds", laid_exegesis_sound_kinds)] }
def EnumCountsSaid : Prop := enumCountsRow.holds Tryz.pinned (OpenSpec.ofChange enumCountsSpec)

/-- ITS FALSE NEIGHBOUR: 'it returns false'. Refute it at one input. -/
def enumCountsWrong : ChangeSpec := { name := "enumCounts", fn := fun _ => fun
  | [d1, d2] => { results := [.lit (.bool false)], args := [d1, d2] }
  | _ => none }
def EnumCountsWrongFalsely : Prop := enumCountsRow.holds Tryz.pinned (OpenSpec.ofChange enumCountsWrong)

/-- 'exegesislaw13.EnumValues': WHATEVER THE INPUT: true; the input reads as it did. -/
def enumValuesSpec : ChangeSpec := { name := "enumValues", fn := fun _ => fun
  | [d1, d2] => { results := [.lit (.bool true)], args := [d1, d2] }
  | _ => none }
def enumValuesRow : OpenClaim := { program := "ytjokgahohllknaagreatdoor", sum := "e0d4a5c2a2fa506501c8b66b3c14bbd84ff284c0ec72032fd6a38a6ef294dce0", func := "exegesis/exegesislaw13.EnumValues", spec := "enumValues", unfollowed := true, recurses := true, named := ["exegesis/sound.kinds"], plainKeys := false, apart := false, laid := [("exegesis/sound.kinds", laid_exegesis_sound_kinds)] }
def EnumValuesSaid : Prop := enumValuesRow.holds Tryz.pinned (OpenSpec.ofChange enumValuesSpec)

/-- ITS FALSE NEIGHBOUR: 'it returns false'. Refute it at one input. -/
def enumValuesWrong : ChangeSpec := { name := "enumValues", fn := fun _ => fun
  | [d1, d2] => { results := [.lit (.bool false)], args := [d1, d2] }
  | _ => none }
def EnumValuesWrongFalsely : Prop := enumValuesRow.holds Tryz.pinned (OpenSpec.ofChange enumValuesWrong)

/-- 'exegesislaw13.EnumThreads': WHATEVER THE INPUT: true; the input reads as it did. -/
def enumThreadsSpec : ChangeSpec := { name := "enumThreads", fn := fun _ => fun
  | [d1, d2, d3] => { results := [.lit (.bool true)], args := [d1, d2, d3] }
  | _ => none }
def enumThreadsRow : OpenClaim := { program := "ytjokgahohllknaagreatdoor", sum := "e0d4a5c2a2fa506501c8b66b3c14bbd84ff284c0ec72032fd6a38a6ef294dce0", func := "exegesis/exegesislaw13.EnumThreads", spec := "enumThreads", unfollowed := true, recurses := true, named := ["exegesis/sound.kinds"], plainKeys := false, apart := false, laid := [("exegesis/sound.kinds", laid_exegesis_sound_kinds)] }
def EnumThreadsSaid : Prop := enumThreadsRow.holds Tryz.pinned (OpenSpec.ofChange enumThreadsSpec)

/-- ITS FALSE NEIGHBOUR: 'it returns false'. Refute it at one input. -/
def enumThreadsWrong : ChangeSpec := { name := "enumThreads", fn := fun _ => fun
  | [d1, d2, d3] => { results := [.lit (.bool false)], args := [d1, d2, d3] }
  | _ => none }
def EnumThreadsWrongFalsely : Prop := enumThreadsRow.holds Tryz.pinned (OpenSpec.ofChange enumThreadsWrong)

/- THE SECOND FORM. 'bulk': how many values and letters a reading holds, each counted each time it is reached (what is shared counts as often as it is met; a slice's spare places count too). A statement '..UptoSaid' is the law's where the arguments, and the package variables that the reading takes, are together of bulk at most 1048576: NARROWER than '..Said'. Prove '..Said' where nothing that the law and all that it calls make is longer than what came in: it says more and counts as full. Else prove '..UptoSaid'. A law counts once. -/
mutual
def uptoBulk {H : Type} : DataW H → Nat
  | .lit (.string bytes) => bytes.length + 1
  | .lit _ => 1
  | .nil => 1
  | .ptr d => uptoBulk d + 1
  | .slice elems spare => uptoBulkAll elems + uptoBulkAll spare + 1
  | .agg parts => uptoBulkAll parts + 1
  | .iface _ d => uptoBulk d + 1
  | .map entries => uptoBulkEntries entries + 1
  | .held _ => 1
def uptoBulkAll {H : Type} : List (DataW H) → Nat
  | [] => 0
  | d :: r => uptoBulk d + uptoBulkAll r
def uptoBulkEntries {H : Type} : List (Lit × DataW H) → Nat
  | [] => 0
  | x :: r => uptoBulkEntry x + uptoBulkEntries r
def uptoBulkEntry {H : Type} : Lit × DataW H → Nat
  | (.string bytes, d) => bytes.length + uptoBulk d + 1
  | (_, d) => uptoBulk d + 1
 end
def uptoSmall : (H : Type) → List (DataW H) → Bool := fun _ ds => decide (uptoBulkAll ds ≤ 1048576)
def OpenSpec.upto (s : _root_.Go.ChangeSpec) : _root_.Go.OpenSpec := { _root_.Go.OpenSpec.ofChange s with cond := some uptoSmall }

/-- 'exegesislaw13.EnumCounts', WHERE WHAT IT READS IS OF BULK AT MOST 1048576: true; the input reads as it did. -/
def enumCountsUptoRow : OpenClaim := { program := "ytjokgahohllknaagreatdoor", sum := "e0d4a5c2a2fa506501c8b66b3c14bbd84ff284c0ec72032fd6a38a6ef294dce0", func := "exegesis/exegesislaw13.EnumCounts", spec := "enumCounts", unfollowed := true, recurses := true, named := ["exegesis/sound.kinds"], plainKeys := false, apart := false, laid := [("exegesis/sound.kinds", laid_exegesis_sound_kinds)], narrowed := true }
def EnumCountsUptoSaid : Prop := enumCountsUptoRow.holds Tryz.pinned (OpenSpec.upto enumCountsSpec)

/-- 'exegesislaw13.EnumValues', WHERE WHAT IT READS IS OF BULK AT MOST 1048576: true; the input reads as it did. -/
def enumValuesUptoRow : OpenClaim := { program := "ytjokgahohllknaagreatdoor", sum := "e0d4a5c2a2fa506501c8b66b3c14bbd84ff284c0ec72032fd6a38a6ef294dce0", func := "exegesis/exegesislaw13.EnumValues", spec := "enumValues", unfollowed := true, recurses := true, named := ["exegesis/sound.kinds"], plainKeys := false, apart := false, laid := [("exegesis/sound.kinds", laid_exegesis_sound_kinds)], narrowed := true }
def EnumValuesUptoSaid : Prop := enumValuesUptoRow.holds Tryz.pinned (OpenSpec.upto enumValuesSpec)

/-- 'exegesislaw13.EnumThreads', WHERE WHAT IT READS IS OF BULK AT MOST 1048576: true; the input reads as it did. -/
def enumThreadsUptoRow : OpenClaim := { program := "ytjokgahohllknaagreatdoor", sum := "e0d4a5c2a2fa506501c8b66b3c14bbd84ff284c0ec72032fd6a38a6ef294dce0", func := "exegesis/exegesislaw13.EnumThreads", spec := "enumThreads", unfollowed := true, recurses := true, named := ["exegesis/sound.kinds"], plainKeys := false, apart := false, laid := [("exegesis/sound.kinds", laid_exegesis_sound_kinds)], narrowed := true }
def EnumThreadsUptoSaid : Prop := enumThreadsUptoRow.holds Tryz.pinned (OpenSpec.upto enumThreadsSpec)

end Rows
end Go.Proofs.YtjokgahohllknaaGreatDoor
