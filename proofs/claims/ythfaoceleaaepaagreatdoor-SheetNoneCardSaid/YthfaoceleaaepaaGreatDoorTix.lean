/-
  The variables that the rows name hold what the program's own text lays there: the facts one by one, each by the kernel. Conditions: none; these are closed facts.
-/
import Derived.Test.YthfaoceleaaepaaGreatDoorRows
import Derived.LaidByTextLater
import Derived.SevenTiedAt
namespace Go.Proofs.YthfaoceleaaepaaGreatDoor.tix
open Go
def tl : List (String × DataW Unit) := [("strconv.ErrSyntax", Rows.laid_strconv_ErrSyntax), ("strconv.ErrRange", Rows.laid_strconv_ErrRange), ("internal/strconv.uint64pow10", Rows.laid_internal_strconv_uint64pow10), ("math/bits.deBruijn32tab", Rows.laid_math_bits_deBruijn32tab), ("math/bits.deBruijn64tab", Rows.laid_math_bits_deBruijn64tab), ("unicode/utf8.acceptRanges", Rows.laid_unicode_utf8_acceptRanges), ("exegesis/sound.kinds", Rows.laid_exegesis_sound_kinds), ("exegesis/valid.errMatch", Rows.laid_exegesis_valid_errMatch), ("exegesis/valid.errForm", Rows.laid_exegesis_valid_errForm), ("exegesis/valid.errBig", Rows.laid_exegesis_valid_errBig), ("errors.errorType", Rows.laid_errors_errorType)]
theorem a1 : Tryz.prog.worded (varsWordLater true) = true := by kernel_rfl
theorem a2 : Tryz.prog.worded (varsWordLater !true) = false := by kernel_rfl
theorem a3 : Tryz.prog.worded rootWordLater = true := by kernel_rfl
theorem a4 : tl.map (fun x => Tryz.prog.kindOfLater x.1) = ([.sentinel, .sentinel, .data, .data, .data, .data, .data, .sentinel, .sentinel, .sentinel, .handle] : List LaidKind).map some := by kernel_rfl
theorem fn : Tryz.prog.funcNamed "gosem.cut.vars" = some 703 := by kernel_rfl
theorem vid : varsId Tryz.prog = 703 := by unfold varsId; rw [fn]; rfl
theorem a5 : (Tryz.prog.funcNamed "gosem.cut.vars").isSome = true := by rw [fn]; rfl
theorem y6 : varsNamedLaterB Tryz.prog 703 tl = true := by kernel_rfl
theorem y1 : ∀ os tape, varsDone Tryz.prog 400 703 os tape = true := fun _ _ => by kernel_rfl
theorem y2 : ∀ os tape, (DataW.laidRun Tryz.prog (varsWorld Tryz.prog 400 703 os tape).memory 8 ((tl.filter fun x => x.2.handleName?.isNone).map (·.1))).map (·.1) = some (tl.filter fun x => x.2.handleName?.isNone) := fun _ _ => by kernel_rfl
theorem y3 : ∀ os tape, (DataW.laidRun Tryz.prog (varsWorld Tryz.prog 400 703 os tape).memory 8 ((tl.filter fun x => x.2.handleName?.isNone).map (·.1))).map (fun x => decide x.2.Nodup && laidRowsB Tryz.prog (varsWorld Tryz.prog 400 703 os tape).memory x.2) = some true := fun _ _ => by kernel_rfl
theorem y4 : ∀ os tape, (tl.filter fun x => x.2.handleName?.isSome).all (handleAtB Tryz.prog (varsWorld Tryz.prog 400 703 os tape).memory) = true := fun _ _ => by kernel_rfl
theorem tie : Tryz.prog.laidByTextLater tl [.sentinel, .sentinel, .data, .data, .data, .data, .data, .sentinel, .sentinel, .sentinel, .handle] true :=
  Program.laidByTextLater_by_run_h 400 8 a1 a2 a3 a4 a5 ((congrArg (fun v => varsNamedLaterB Tryz.prog v tl = true) vid).mpr y6)
    ((congrArg (fun v => ∀ os tape, varsDone Tryz.prog 400 v os tape = true) vid).mpr y1)
    ((congrArg (fun v => ∀ os tape, (DataW.laidRun Tryz.prog (varsWorld Tryz.prog 400 v os tape).memory 8 ((tl.filter fun x => x.2.handleName?.isNone).map (·.1))).map (·.1) = some (tl.filter fun x => x.2.handleName?.isNone)) vid).mpr y2)
    ((congrArg (fun v => ∀ os tape, (DataW.laidRun Tryz.prog (varsWorld Tryz.prog 400 v os tape).memory 8 ((tl.filter fun x => x.2.handleName?.isNone).map (·.1))).map (fun x => decide x.2.Nodup && laidRowsB Tryz.prog (varsWorld Tryz.prog 400 v os tape).memory x.2) = some true) vid).mpr y3)
    ((congrArg (fun v => ∀ os tape, (tl.filter fun x => x.2.handleName?.isSome).all (handleAtB Tryz.prog (varsWorld Tryz.prog 400 v os tape).memory) = true) vid).mpr y4)
theorem pin_laid_unicode_utf8_first : Tryz.pinned.checked.prog.pinnedFits "unicode/utf8.first" = true := by kernel_rfl
theorem noOwnUnsafe : Tryz.pinned.checked.prog.headLifts.contains "ownunsafe" = false := by kernel_rfl
theorem fits1 : Tryz.pinned.checked.prog.listedFits [("strconv.ErrSyntax", Rows.laid_strconv_ErrSyntax), ("strconv.ErrRange", Rows.laid_strconv_ErrRange), ("internal/strconv.uint64pow10", Rows.laid_internal_strconv_uint64pow10), ("math/bits.deBruijn32tab", Rows.laid_math_bits_deBruijn32tab), ("math/bits.deBruijn64tab", Rows.laid_math_bits_deBruijn64tab), ("unicode/utf8.first", Rows.laid_unicode_utf8_first), ("unicode/utf8.acceptRanges", Rows.laid_unicode_utf8_acceptRanges), ("exegesis/sound.kinds", Rows.laid_exegesis_sound_kinds), ("exegesis/valid.errMatch", Rows.laid_exegesis_valid_errMatch), ("exegesis/valid.errForm", Rows.laid_exegesis_valid_errForm), ("exegesis/valid.errBig", Rows.laid_exegesis_valid_errBig), ("errors.errorType", Rows.laid_errors_errorType)] = true := by
  unfold Program.listedFits
  rw [noOwnUnsafe]
  kernel_rfl
theorem sheetChecks_row_tie : Rows.sheetChecksRow.laidByTextAt .later Tryz.pinned [.sentinel, .sentinel, .data, .data, .data, .pinned, .data, .data, .sentinel, .sentinel, .sentinel, .handle] true :=
  OpenClaim.laidByTextAt_pinned rfl rfl tie rfl rfl rfl rfl (fun y hy _e => by
    simp only [Rows.sheetChecksRow, List.zip_cons_cons, List.zip_nil_right, List.mem_cons, List.mem_nil_iff, or_false] at hy
    rcases hy with rfl | rfl | rfl | rfl | rfl | rfl | rfl | rfl | rfl | rfl | rfl | rfl
    · cases _e
    · cases _e
    · cases _e
    · cases _e
    · cases _e
    · exact ⟨pin_laid_unicode_utf8_first, by kernel_rfl⟩
    · cases _e
    · cases _e
    · cases _e
    · cases _e
    · cases _e
    · cases _e) fits1
theorem sheetNone_row_tie : Rows.sheetNoneRow.laidByTextAt .later Tryz.pinned [.sentinel, .sentinel, .data, .data, .data, .pinned, .data, .data, .sentinel, .sentinel, .sentinel, .handle] true :=
  OpenClaim.laidByTextAt_pinned rfl rfl tie rfl rfl rfl rfl (fun y hy _e => by
    simp only [Rows.sheetNoneRow, List.zip_cons_cons, List.zip_nil_right, List.mem_cons, List.mem_nil_iff, or_false] at hy
    rcases hy with rfl | rfl | rfl | rfl | rfl | rfl | rfl | rfl | rfl | rfl | rfl | rfl
    · cases _e
    · cases _e
    · cases _e
    · cases _e
    · cases _e
    · exact ⟨pin_laid_unicode_utf8_first, by kernel_rfl⟩
    · cases _e
    · cases _e
    · cases _e
    · cases _e
    · cases _e
    · cases _e) fits1
end Go.Proofs.YthfaoceleaaepaaGreatDoor.tix
