/-
  errors.Is of an error of this program's that wraps another error, at a sentinel that stands elsewhere: false, nothing turns. Conditions: both sentinels' rows of cells lie in memory, unfrozen, at two addresses.
-/
import Derived.Test.YthfaoceleaaepaaGreatDoorProg
import Derived.Test.YthfaoceleaaepaaGreatDoorRnZd
import Derived.WalkKit
import Derived.LaidEql
import Derived.Stop.Asserts
import Derived.RowKitTokens
namespace Go.Proofs.YthfaoceleaaepaaGreatDoor.is
open Go.RowKit Go.Extern.Stop Go.Stop Go.Extern
theorem isTypeOf (v:Value) (w:World):(Extern.ReflectliteType.typeOf #[.iface 621 v]).run Tryz.prog w=.ok (.iface 436 (.agg #[.pointer (some ⟨13,621,none⟩)])) w:=by kernel_rfl
def cmp:Array Value→Sem Value:=Extern.ReflectliteType.method fun t=>do Extern.Rtype.noPackHeld "Comparable" t; pure (.bool (← typeInfo t).comparable)
theorem isComparable (w:World):(cmp #[.agg #[.pointer (some ⟨13,621,none⟩)]]).run Tryz.prog w=.ok (.bool true) w:=by kernel_rfl
theorem isMethodComparable (v:Value) (w:World):(Go.method 883 436 v "Comparable").run Tryz.prog w=.ok (672,v) w:=by kernel_rfl
theorem isComp:(Tryz.prog.info? 621).map (·.comparable)=some true:=by kernel_rfl
theorem isSize:(Tryz.prog.info? 623).map (·.size)=some 1:=by kernel_rfl
theorem noIsE (v:Value) (xT:TypeId) (w:World):(Instr.typeAssert (.iface 621 v) xT 438 true).run Tryz.prog w=.ok (.tuple #[.nilIface,.bool false]) w:=run_typeAssert_lacksB Tryz.underlying438 (by kernel_rfl) (by kernel_rfl) v xT w
theorem noUnwrapE (v:Value) (xT:TypeId) (w:World):(Instr.typeAssert (.iface 621 v) xT 441 true).run Tryz.prog w=.ok (.tuple #[.nilIface,.bool false]) w:=run_typeAssert_lacksB Tryz.underlying441 (by kernel_rfl) (by kernel_rfl) v xT w
theorem noUnwrapsE (v:Value) (xT:TypeId) (w:World):(Instr.typeAssert (.iface 621 v) xT 443 true).run Tryz.prog w=.ok (.tuple #[.nilIface,.bool false]) w:=run_typeAssert_lacksB Tryz.underlying443 (by kernel_rfl) (by kernel_rfl) v xT w
theorem noIsW (v:Value) (xT:TypeId) (w:World):(Instr.typeAssert (.iface 231 v) xT 438 true).run Tryz.prog w=.ok (.tuple #[.nilIface,.bool false]) w:=run_typeAssert_lacksB Tryz.underlying438 (by kernel_rfl) (by kernel_rfl) v xT w
theorem hasUnwrapW (v:Value) (xT:TypeId) (w:World):(Instr.typeAssert (.iface 231 v) xT 441 true).run Tryz.prog w=.ok (.tuple #[.iface 231 v,.bool true]) w:=run_typeAssert_hasB Tryz.underlying441 (by kernel_rfl) v xT w
theorem methodUnwrap (v:Value) (w:World):(Go.method 883 231 v "Unwrap").run Tryz.prog w=.ok (660,v) w:=by kernel_rfl
set_option maxRecDepth 100000 in
theorem is_wrap_other (pb po:Nat) (b a:Addr) (ca cb:Array Value) (ta tb:TypeId) (w:World) (h1:w.cell? ⟨pb,po + 1,none⟩=some (.iface 621 (.pointer (some a)))) (hne:a ≠ b) (ha:w.heap[a.block]?=some (.cells ca ta (0,0))) (hb:w.heap[b.block]?=some (.cells cb tb (0,0))) :
  Calls Tryz.prog 122 #[.iface 231 (.pointer (some ⟨pb,po,none⟩)),.iface 621 (.pointer (some b))] w fun e w'=>e=.returned (.bool false)∧w'=w:=by
 obtain ⟨i,hi,hcmp⟩:=Option.map_eq_some_iff.1 isComp
 obtain ⟨j,hj,hjs⟩:=Option.map_eq_some_iff.1 isSize
 have h8:=@run_callFunc_extern Tryz.prog 182 _ Extern.ReflectliteType.typeOf Tryz.func182 (by kernel_rfl) (by kernel_rfl) (by kernel_rfl) (by kernel_rfl)
 have h32:=@run_callFunc_extern Tryz.prog 672 _ cmp Tryz.func672 (by kernel_rfl) (by kernel_rfl) (by kernel_rfl) (by kernel_rfl)
 have tT:=isTypeOf
 have cT:=isComparable
 have mR:=isMethodComparable
 have nE:=noIsE
 have uE:=noUnwrapE
 have vE:=noUnwrapsE
 have nW:=noIsW
 have uW:=hasUnwrapW
 have mU:=methodUnwrap
 have heq:=run_eql_iface_ptr_other (P:=Tryz.prog) w Tryz.underlying145 Tryz.underlying621 hi hcmp hj (by rw [hjs]; decide) hne ha hb
 have hty:=run_eql_iface_types (P:=Tryz.prog) 231 621 (.pointer (some ⟨pb,po,none⟩)) (.pointer (some b)) Tryz.underlying145 (by decide) w
 go_enter Tryz.func122,Tryz.ntmps122
 go_wp2
 refine wp_loop_rounds 2 ?_
 rw [rounds_succ]
 go_wp2
 rw [rounds_succ]
 go_wp2
 go_ret
 exact ⟨rfl,rfl⟩
theorem knownIs:Rn.known Tryz.prog 122=true:=by kernel_rfl
theorem is_ok:Rn.IsC Tryz.prog 122 231 621:=by
 intro w A O B1 O1 B2 O2 C C1 C2 el t1 t2 fr hA hC h1 h2 hne
 refine (is_wrap_other A O ⟨B2,O2,none⟩ ⟨B1,O1,none⟩ C1 C2 t1 t2 w (by simp only [World.cell?,hA]; simpa using hC) (fun e=>by
  simp only [Addr.mk.injEq,and_true] at e
  omega) h1 h2).mono ?_
 rintro e w' ⟨rfl,rfl⟩
 exact ⟨rfl,Rn.Old.refl _⟩
end Go.Proofs.YthfaoceleaaepaaGreatDoor.is
