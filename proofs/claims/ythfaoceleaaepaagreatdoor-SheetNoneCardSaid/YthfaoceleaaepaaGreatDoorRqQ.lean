/-
  One text of a symbolic evaluator over the model, shown sound once for every program: no statement is claimed here.
-/
import Derived.Test.YthfaoceleaaepaaGreatDoorRqP
import Derived.Test.YthfaoceleaaepaaGreatDoorRnZf
namespace Go.Rn
variable {ρ:Nat→Int} {P:Program}
/-! a beginning with several rows that are laid: numbers and bools in variables -/
theorem chain_len:∀ kv:List Value,chLen (chain kv)=some kv.length
 | []=>rfl
 | v::r=>by
  show gO none (chLen (chain r)) (fun n=>some (n + 1))=_
  rw [chain_len r]; rfl
theorem chain_is {m:Mp}:∀ {kv:List Value},(∀ v ∈ kv,PlainV v)→denC ρ m (chain kv) kv
 | [],_=>denC_nil.2 rfl
 | v::r,hp=>by
  refine denC_cons.2 ⟨v,r,rfl,?_,chain_is fun x hx=>hp x (List.mem_cons_of_mem _ hx)⟩
  have hv:=hp v List.mem_cons_self
  cases v <;> first | exact hv.elim | rfl
theorem plain_cell {v:Value} (h:PlainV v):Cell v:=by cases v <;> first | exact h.elim | rfl
def sizeAt (w:World) (b:Nat):Nat:=match w.heap[b]? with | some (.cells C _ _)=>C.size | _=>0
def mR (w:World):Mp:=fun b=>if b < 100 then some (b,0,sizeAt w b) else none
end Go.Rn
