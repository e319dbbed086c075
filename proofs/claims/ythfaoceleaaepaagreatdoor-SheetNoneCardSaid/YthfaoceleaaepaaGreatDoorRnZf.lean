/-
  One text of a symbolic evaluator over the model, shown sound once for every program: no statement is claimed here.
-/
import Derived.Test.YthfaoceleaaepaaGreatDoorRnZd
import Derived.OpenShut
import Derived.ChangeArms
namespace Go.Rn
variable {ρ:Nat→Int} {P:Program}
end Go.Rn
namespace Go.Rn
noncomputable def leafV {H:Type} (P:Program):Nat→TypeId→DataW H→Nat→Option Value
 | 0,_,_,_=>none
 | k + 1,t,d,o=>match P.underlying t,d with
  | some (.int j),.lit (.int _ z)=>if o=0 then some (.int j z) else none
  | some .bool,.lit (.bool b)=>if o=0 then some (.bool b) else none
  | some (.struct fs),.agg ds=>(List.range fs.size).findSome? fun i=>match fs[i]?,ds[i]? with
   | some f,some d'=>if f.offset≤o∧o < f.offset + P.cellsOf f.type then leafV P k f.type d' (o - f.offset) else none
   | _,_=>none
  | some (.array n e),.agg ds=>if o / P.cellsOf e < n then (ds[o / P.cellsOf e]?).bind fun d'=>if o % P.cellsOf e < P.cellsOf e then leafV P k e d' (o % P.cellsOf e) else none else none
  | _,_=>none
theorem leafV_ok {H:Type} {enc:TypeId × Value→H} {P:Program} {w:World} {base:Nat} {sp:Nat→Bool} {held:Bool}:∀ (k fuel:Nat) (t:TypeId) (d:DataW H) (o:Nat) (v:Value) (cs:List Value) (p:List MemPlace),
  leafV P k t d o=some v→DataW.trod enc P w base sp held fuel t cs=some (d,p)→cs[o]?=some v
 | 0,_,_,_,_,_,_,_,h,_=>by cases h
 | k + 1,fuel,t,d,o,v,cs,p,h,ht=>by
  unfold leafV at h
  split at h
  ·rename_i j j' z hu
   split at h
   ·rename_i ho
    subst ho
    cases h
    obtain ⟨n,rfl,hx,_⟩:=DataW.trod_int hu ht
    cases hx
    rfl
   ·cases h
  ·rename_i b hu
   split at h
   ·rename_i ho
    subst ho
    cases h
    obtain ⟨n,rfl,hx⟩:=DataW.trod_bool hu ht
    cases hx
    rfl
   ·cases h
  ·rename_i fs ds hu
   obtain ⟨xs,n,_,hx,_,_,hall⟩:=DataW.trod_struct hu ht
   cases hx
   obtain ⟨i,_,h2⟩:=List.exists_of_findSome?_eq_some h
   split at h2
   ·rename_i f d' hf hd
    split at h2
    ·rename_i ho
     have h3:=hall i f hf
     rw [List.getElem?_map] at hd
     cases hxi:xs[i]? with
     | none=>rw [hxi] at hd; cases hd
     | some y=>
      rw [hxi] at hd h3
      cases hd
      have:=leafV_ok k n f.type y.1 (o - f.offset) v _ y.2 h2 h3
      rw [List.getElem?_take_of_lt (by omega),List.getElem?_drop] at this
      rwa [show f.offset + (o - f.offset)=o by omega] at this
    ·cases h2
   ·cases h2
  ·rename_i n e ds hu
   obtain ⟨xs,m,_,hx,_,_,hall⟩:=DataW.trod_array hu ht
   cases hx
   split at h
   ·rename_i hn
    obtain ⟨d',hd,h2⟩:=Option.bind_eq_some_iff.1 h
    split at h2
    ·rename_i ho
     have h3:=hall _ hn
     rw [List.getElem?_map] at hd
     cases hxi:xs[o / P.cellsOf e]? with
     | none=>rw [hxi] at hd; cases hd
     | some y=>
      rw [hxi] at hd h3
      cases hd
      have:=leafV_ok k m e y.1 (o % P.cellsOf e) v _ y.2 h2 h3
      rw [List.getElem?_take_of_lt ho,List.getElem?_drop] at this
      have e1:o / P.cellsOf e * P.cellsOf e + o % P.cellsOf e=o:=Nat.div_add_mod' o (P.cellsOf e)
      rwa [e1] at this
    ·cases h2
   ·cases h
  ·cases h
end Go.Rn
