/-
  What the functions that the law reaches do, one by one: contracts. Conditions: those that each of them prints.
-/
import Derived.Test.YteghpophcnehgaaMy
import Derived.WalkKit
namespace Go.Proofs.Yteghpophcnehgaa
open Go.RowKit ExprA SndA
namespace SndA
structure ThG (x:World) (th:Th):Prop where
 lin:LIn x th.a th.L
 len:th.L.length≤3
 ins:∀ q,q < th.L.length→InsOk (th.L.getD q Ins.zero)∧TIn x (th.L.getD q Ins.zero).a (th.L.getD q Ins.zero).E∧(th.L.getD q Ins.zero).E.length≤9∧((th.L.getD q Ins.zero).k=6→(q:Int) + (th.L.getD q Ins.zero).n + 1≤(th.L.length:Int))
theorem ThG.next {x y:World} {th:Th} (h:ThG x th) (hb:Below x.heap.size x y):ThG y th:=
 ⟨h.lin.next hb,h.len,fun q hq=>⟨(h.ins q hq).1,(h.ins q hq).2.1.next hb,(h.ins q hq).2.2⟩⟩
structure PG (x:World) (tb T:Nat) (P:List Th):Prop where
 one:1≤T
 few:T≤4
 cell:∀ t,t < T→x.cell? ⟨tb,t,none⟩=some (P.getD t Th.zero).v
 th:∀ t,t < T→ThG x (P.getD t Th.zero)
theorem PG.next {x y:World} {tb T:Nat} {P:List Th} (h:PG x tb T P) (hb:Below x.heap.size x y):PG y tb T P:=
 ⟨h.one,h.few,fun t ht=>cell_next (h.cell t ht) hb,fun t ht=>(h.th t ht).next hb⟩
def pv (tb T:Nat):Value:=.agg #[.int .i64 2,.slice (some ⟨tb,0,none⟩) T T]
def SaysI (e:Ending):Prop:=∃ n:Int,e=.returned (.int .i64 n)
structure Fr (X:Nat→Prop) (w w':World):Prop where
 os:w'.os=w.os
 tape:w'.tape=w.tape
 output:w'.output=w.output
 size:w.heap.size≤w'.heap.size
 keep:∀ b,b < w.heap.size→¬ X b→w'.heap[b]?=w.heap[b]?
theorem Fr.refl (X:Nat→Prop) (w:World):Fr X w w:=⟨rfl,rfl,rfl,Nat.le_refl _,fun _ _ _=>rfl⟩
theorem Fr.trans {X:Nat→Prop} {a b c:World} (h:Fr X a b) (g:Fr X b c):Fr X a c:=
 ⟨g.os.trans h.os,g.tape.trans h.tape,g.output.trans h.output,Nat.le_trans h.size g.size,fun x hx hn=>(g.keep x (Nat.lt_of_lt_of_le hx h.size) hn).trans (h.keep x hx hn)⟩
theorem Fr.trans2 {X Y:Nat→Prop} {a b c:World} (h:Fr X a b) (g:Fr Y b c) (hY:∀ x,x < a.heap.size→Y x→X x):Fr X a c:=
 ⟨g.os.trans h.os,g.tape.trans h.tape,g.output.trans h.output,Nat.le_trans h.size g.size,fun x hx hn=>(g.keep x (Nat.lt_of_lt_of_le hx h.size) (fun q=>hn (hY x hx q))).trans (h.keep x hx hn)⟩
theorem Fr.mono {X Y:Nat→Prop} {a b:World} (h:Fr X a b) (hX:∀ x,x < a.heap.size→X x→Y x):Fr Y a b:=⟨h.os,h.tape,h.output,h.size,fun x hx hn=>h.keep x hx (fun q=>hn (hX x hx q))⟩
theorem Fr.of_below {X:Nat→Prop} {w w':World} (h:Below w.heap.size w w'):Fr X w w':=⟨h.os,h.tape,h.output,h.size,fun b hb _=>h.block b hb⟩
theorem Fr.of_grown {X:Nat→Prop} {w w':World} {row:Option Nat} (h:w.grownBy w' row) (hX:∀ b,row=some b→X b):Fr X w w':=⟨h.os,h.tape,h.output,h.size,fun b hb hn=>h.block b hb (fun q=>hn (hX b q.symm))⟩
theorem Fr.below {X:Nat→Prop} {w w':World} {base:Nat} (h:Fr X w w') (hX:∀ b,b < base→¬ X b) (hb:base≤w.heap.size):Below base w w':=⟨h.os,h.tape,h.output,h.size,fun b hl=>h.keep b (Nat.lt_of_lt_of_le hl hb) (hX b hl)⟩
theorem Fr.set {X:Nat→Prop} (w:World) (l k:Nat) (v:Value) (hX:X l):Fr X w (w.setCell ⟨l,k,none⟩ v):=
 ⟨rfl,rfl,rfl,by simp,fun b _ hn=>Below.heap_setCell w ⟨l,k,none⟩ v b (fun q=>hn (by rw [q]; exact hX))⟩
theorem Fr.cell {X:Nat→Prop} {w w':World} (h:Fr X w w') {x:Addr} {v:Value} (hx:w.cell? x=some v) (hn:¬ X x.block):w'.cell? x=some v:=by
 have hb:=World.block_lt_of_cell? w x hx
 have:=h.keep x.block hb hn
 simp only [World.cell?] at hx ⊢
 rw [this]; exact hx
structure LB (base:Nat) (W:World) (v:Value) (L:List (List Int)) (vs:List Value):Prop where
 own:W.ownsRow base 22 1 v L.length vs
 len:vs.length=L.length
 el:∀ i,i < L.length→LV W (vs.getD i undef) (L.getD i [])
section
variable {base base':Nat} {W W':World} {v:Value} {L:List (List Int)} {vs:List Value}
theorem LB.nil (base:Nat) (W:World):LB base W (.slice none 0 0) [] []:=⟨World.ownsRow_nil _ _ _ _,rfl,fun _ h=>absurd h (Nat.not_lt_zero _)⟩
theorem LB.lower (h:LB base W v L vs) (hb:base'≤base):LB base' W v L vs:=⟨own_lower h.own hb,h.len,h.el⟩
theorem LB.next (h:LB base W v L vs) (hb:Below W.heap.size W W'):LB base W' v L vs:=⟨own_below h.own hb,h.len,fun i hi=>(h.el i hi).next hb⟩
theorem LB.apart (h:LB base W v L vs) {x:Value} {l:List Int} (hx:LV W x l):∀ g,x.ownBlock=some g→v.ownBlock ≠ some g:=fun g q r=>by
 obtain ⟨c,f,a⟩:=Lib.ownsRow_kind h.own g r
 obtain ⟨c2,f2,a2⟩:=Lib.ownsRow_kind hx g q
 rw [a2] at a; simp at a
theorem LB.keep (h:LB base W v L vs) (hg:W.grownBy W' v.ownBlock) {x:Value} {l:List Int} (hx:LV W x l):LV W' x l:=
 own_keep hx fun g q=>hg.block g (hx.lt g q).2 (fun r=>h.apart hx g q r.symm)
theorem LB.grow {v' x:Value} {l:List Int} (h:LB base W v L vs) (hg:W.grownBy W' v.ownBlock) (ho:W'.ownsRow base 22 1 v' (L.length + 1) (vs ++ [x])) (hx:LV W x l):LB base W' v' (L ++ [l]) (vs ++ [x]):=by
 refine ⟨by rw [List.length_append]; exact ho,by simp [h.len],fun i hi=>?_⟩
 rw [List.length_append,List.length_singleton] at hi
 by_cases q:i < L.length
 ·have e1:(vs ++ [x]).getD i undef=vs.getD i undef:=by
   rw [List.getD_eq_getElem?_getD,List.getD_eq_getElem?_getD,List.getElem?_append_left (by rw [h.len]; exact q)]
  have e2:(L ++ [l]).getD i []=L.getD i []:=by
   rw [List.getD_eq_getElem?_getD,List.getD_eq_getElem?_getD,List.getElem?_append_left q]
  rw [e1,e2]
  exact h.keep hg (h.el i q)
 ·have e:i=L.length:=by omega
  have e1:(vs ++ [x]).getD i undef=x:=by
   rw [List.getD_eq_getElem?_getD,List.getElem?_append_right (by rw [h.len]; omega),h.len,e,Nat.sub_self]; rfl
  have e2:(L ++ [l]).getD i []=l:=by
   rw [List.getD_eq_getElem?_getD,List.getElem?_append_right (by omega),e,Nat.sub_self]; rfl
  rw [e1,e2]
  exact h.keep hg hx
theorem LB.cell (h:LB base W v L vs) {i:Nat} (hi:i < L.length):∃ g c,v=.slice (some ⟨g,0,none⟩) L.length c∧g < W.heap.size∧W.cell? ⟨g,i,none⟩=some (vs.getD i undef):=by
 have hc:=fun g hg=>World.ownsRow.cells h.own (g:=g) hg
 have hl:=World.ownsRow.lt h.own
 rcases h.own.2 with ⟨_,h2⟩ | ⟨g,cap,cur,rfl,_⟩
 ·omega
 ·refine ⟨g,cap,rfl,(hl g rfl).2,?_⟩
  have:=hc g rfl i (vs.getD i undef) (by rw [List.getD_eq_getElem?_getD,List.getElem?_eq_getElem (by rw [h.len]; exact hi)]; rfl)
  have e:(⟨g,0,none⟩:Addr).add i=⟨g,i,none⟩:=by unfold Addr.add; simp; intro q; exact q.symm
  rw [e] at this; exact this
end
def NewB (w:World) (v v':Value):Prop:=v'.ownBlock=v.ownBlock ∨ ∃ b,v'.ownBlock=some b∧w.heap.size≤b
theorem NewB.refl (w:World) (v:Value):NewB w v v:=.inl rfl
theorem NewB.trans {w w1:World} {v v1 v2:Value} (h:NewB w v v1) (g:NewB w1 v1 v2) (hb:w.heap.size≤w1.heap.size):NewB w v v2:=by
 rcases g with q | ⟨b,q,r⟩
 ·unfold NewB; rw [q]; exact h
 ·exact .inr ⟨b,q,Nat.le_trans hb r⟩
theorem infoSl:(Try.prog.info? 22).map (fun i=>(i.zero,i.size,i.bytes))=some (some (.slice none 0 0),1,24):=by kernel_rfl
theorem infoSl2:(Try.prog.info? 35).map (fun i=>(i.zero,i.size,i.bytes))=some (some (.slice none 0 0),1,24):=by kernel_rfl
theorem infoGr:(Try.prog.info? 38).map (fun i=>(i.zero,i.size,i.bytes))=some (some (.agg #[.int .i64 0,.slice none 0 0,.slice none 0 0,.slice none 0 0,.slice none 0 0,.slice none 0 0,.slice none 0 0,.slice none 0 0]),8,176):=by kernel_rfl
theorem app_any {w:World} {base:Nat} {t e0:TypeId} {z:Value} {size bytes n:Nat} {v:Value} {xs:List Value} (h:w.ownsRow base e0 size v n xs) (hbase:base≤w.heap.size) (ht:Try.prog.underlying t=some (.slice e0)) (hi0:(Try.prog.info? e0).map (fun i=>(i.zero,i.size,i.bytes))=some (some z,size,bytes)) (hzs:z.cells.size=size) (hs0:0 < size) (hb:bytes≤200)
  (ty:TypeId) (a:Option Addr) (m c:Nat) (news:List Value) (hl:news.length=m * size) (hnews:m=0 ∨ ∃ ad,a=some ad∧∀ j u,news[j]?=some u→w.cell? (ad.add j)=some u) (h1:∀ u ∈ news,u.oneCell'=true) (hn:n + m≤1000000) :
  ∃ v' w',(Builtin.append_ #[t,t] ty #[v,.slice a m c]).run Try.prog w=.ok v' w'∧w'.ownsRow base e0 size v' (n + m) (xs ++ news)∧w.grownBy w' v.ownBlock∧(v'.ownBlock=v.ownBlock ∨ v'.ownBlock=some w.heap.size):=by
 obtain ⟨i,hi,z1,z2,z3⟩:=info_parts hi0
 have hbb:(n + m) * bytes≤1000000 * 200:=Nat.mul_le_mul hn hb
 exact append_gen (P:=Try.prog) (w:=w) base t ty e0 i z size bytes ht hi z1 z2 z3 hzs hs0 v n xs h a m c news hl hnews h1 (by unfold maxLen; omega) (by omega) hbase
theorem copy_any {w:World} {v:Value} {L:List Int} (h:LV w v L) (hL:L.length≤1000) :
  ∃ v' w',(Builtin.append_ #[22,22] 22 #[.slice none 0 0,v]).run Try.prog w=.ok v' w'∧w'.ownsRow w.heap.size 3 1 v' L.length (nints L)∧Below w.heap.size w w':=by
 have HF:=h.form
 obtain ⟨a,c,rfl⟩:=own_len h
 obtain ⟨v',w',hr,ho,hg,hv⟩:=app_any (World.ownsRow_nil w w.heap.size 3 1) (Nat.le_refl _) Try.underlying22 infoInt rfl (by omega) (by omega) 22 a L.length c (nints L) (by simp [nints]) (by
  rcases HF with ⟨_,q⟩ | ⟨g,c',q,_,_,_,hc⟩
  ·exact .inl (by rw [q]; rfl)
  ·simp only [Value.slice.injEq] at q
   refine .inr ⟨⟨g,0,none⟩,q.1,news_cells (fun i hi=>?_)⟩
   rw [Nat.zero_add]; exact hc i hi) (nints_one _) (by omega)
 rw [Nat.zero_add,List.nil_append] at ho
 exact ⟨v',w',hr,ho,⟨hg.os,hg.tape,hg.output,hg.size,fun b hb=>hg.block b hb (by simp [Value.ownBlock])⟩⟩
end SndA
end Go.Proofs.Yteghpophcnehgaa
