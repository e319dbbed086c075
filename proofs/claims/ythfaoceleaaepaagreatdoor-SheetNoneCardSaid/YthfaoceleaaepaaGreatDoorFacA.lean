/-
  Facts of the program that both rows ask: types in order, the pointer of the sentinel errors. Conditions: none; these are closed facts.
-/
import Derived.Test.YthfaoceleaaepaaGreatDoorRows
import Derived.LaidLaws
import Derived.JoinedOf
namespace Go.Proofs.YthfaoceleaaepaaGreatDoor.fac
open Go
theorem layA : (List.range Tryz.pinned.checked.prog.types.size).all (rowFine Tryz.pinned.checked.prog) = true := by kernel_rfl
theorem layB : Tryz.pinned.checked.prog.globals.all (fun g => decide (g.type < Tryz.pinned.checked.prog.types.size)) = true := by kernel_rfl
theorem layC : Tryz.pinned.checked.prog.funcs.all (fun f => f.params.all fun t => decide (t < Tryz.pinned.checked.prog.types.size)) = true := by kernel_rfl
theorem lay : laidOutB Tryz.pinned.checked.prog = true := by
  unfold laidOutB
  exact Bool.and_eq_true_iff.mpr ⟨Bool.and_eq_true_iff.mpr ⟨layA, layB⟩, layC⟩
theorem mapr : mapsRowed Tryz.pinned.checked.prog = true := by kernel_rfl
theorem heard : Tryz.pinned.checked.prog.stopsHeard = true := by kernel_rfl
theorem enter : Tryz.pinned.checked.prog.mayEnter = true := by kernel_rfl
theorem star : "*" ++ "errors.errorString" = "*errors.errorString" := by decide
def HR (P : Program) (nm : String) (tp : TypeId) : Prop := ((List.range P.types.size).all fun u => P.typeName? 3 u != some ("*" ++ nm) || u == tp) = true
def HN (P : Program) (nm : String) : Prop := ((List.range P.types.size).all fun e => P.typeName? 2 e != some nm || (match (P.info? e).map (·.desc) with | some (TypeDesc.named _ _) => true | _ => false)) = true
theorem hrows : HR Tryz.prog "errors.errorString" 621 := by
  unfold HR
  rw [star]
  kernel_rfl
theorem hnamed : HN Tryz.prog "errors.errorString" := by
  unfold HN
  kernel_rfl
theorem rowPtr_of {P : Program} {nm : String} {tp : TypeId} (h1 : HR P nm tp) (h2 : HN P nm) (h3 : nm.toList.head? ≠ some '*') (u : TypeId) (hu : P.typeName? 3 u = some ("*" ++ nm)) : u = tp :=
  typeName_ptr_named h1 h2 h3 u hu
theorem rowPtr (u : TypeId) (h : Tryz.prog.typeName? 3 u = some "*errors.errorString") : u = 621 :=
  rowPtr_of hrows hnamed (by decide) u (star.symm ▸ h)
end Go.Proofs.YthfaoceleaaepaaGreatDoor.fac
