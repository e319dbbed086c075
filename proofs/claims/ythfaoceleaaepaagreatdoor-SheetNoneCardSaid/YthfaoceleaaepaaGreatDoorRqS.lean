/-
  One text of a symbolic evaluator over the model, shown sound once for every program: no statement is claimed here.
-/
import Derived.Test.YthfaoceleaaepaaGreatDoorRqR
namespace Go.Rn
variable {ρ:Nat→Int} {P:Program}
/-! a beginning with rows of which the runner knows what it says: a block,its cells as a chain,how many -/
abbrev VRows:=List (Nat × RV × Nat)
noncomputable def startV:VRows→H3→(H3→A)→A
 | [],h,k=>k h
 | r::l,h,k=>ifA (Nat.beq r.2.2 MAPZ) .no (lay3 r.2.1 ce3 0 fun cs _=>hupd h r.1 (fun _ f=>f (bkB cs r.2.2)) fun h=>startV l h k)
noncomputable def heapV:VRows→HT→HT
 | [],h=>h
 | r::l,h=>heapV l (hst h (.bk (lay r.2.1 ce 0) r.2.2) r.1)
theorem startV_ok:∀ {l:VRows} {h3:H3} {h:HT} {k:H3→A},HRel h3 h→Good (startV l h3 k)→∃ h3',HRel h3' (heapV l h)∧Good (k h3')
 | [],_,_,_,r,e=>⟨_,r,e⟩
 | q::l,h3,h,k,r,e=>by
  rcases ifA_ok e with ⟨_,e⟩ | ⟨hz,e⟩
  ·exact Good.no e
  have hmz:q.2.2 ≠ MAPZ:=fun p=>by rw [p] at hz; exact absurd hz (by decide)
  obtain ⟨_,_,c3,rc,h1⟩:=lay3_ok ce3_ok e
  obtain ⟨_,b3,g,_,h2,h4⟩:=hupd_ok r h1
  obtain ⟨h5,r5,e5⟩:=h4 (bkB c3 q.2.2) (.bk (lay q.2.1 ce 0) q.2.2) (.inl ⟨hmz,c3,rfl,rc⟩) h2
  exact startV_ok (l:=l) r5 e5
theorem heapV_at:∀ {l:VRows} {h:HT} {b:Nat} {c:CT} {z:Nat},hg (heapV l h) b=.bk c z→hg h b=.bk c z ∨ ∃ r ∈ l,b=r.1∧c=lay r.2.1 ce 0∧z=r.2.2
 | [],_,_,_,_,e=>.inl e
 | q::l,h,b,c,z,e=>by
  rcases heapV_at (l:=l) e with h1 | ⟨r,h1,h2⟩
  ·rcases hg_hst h (.bk (lay q.2.1 ce 0) q.2.2) q.1 b with ⟨h2,h3 | h3⟩ | ⟨_,h3⟩
   ·rw [h3] at h1; cases h1; exact .inr ⟨q,List.mem_cons_self,h2,rfl,rfl⟩
   ·rw [h3] at h1; cases h1
   ·rw [h3] at h1; exact .inl h1
  ·exact .inr ⟨r,List.mem_cons_of_mem _ h1,h2⟩
def rowsVB (l:VRows):Bool:=l.all fun r=>Nat.blt r.1 97 && !Nat.beq r.2.2 MAPZ
def ifU (t:Nat):RV:=.fn (33554432 + t) (.cons .nil (.cons .un .nil))
end Go.Rn
