/-
  What the functions that the law reaches do, one by one: contracts. Conditions: those that each of them prints.
-/
import Derived.Test.YteghpophcnehgaaMzf
import Derived.Test.YteghpophcnehgaaMzg
import Derived.WalkKit
import Derived.Deep.RegionLaw
import Derived.Deep.Quiet
import Derived.Deep.DeepCutAuto
import Derived.Deep.CutBlock
namespace Go.Proofs.Yteghpophcnehgaa
open Go.RowKit ExprA SndA
namespace SndA
def miss (c:List Int):Nat→Nat
 | 0=>0
 | B + 1=>miss c B + (if (B:Int) ∈ c then 0 else 1)
theorem miss_le (c:List Int):∀ B,miss c B≤B
 | 0=>Nat.le_refl _
 | B + 1=>by have:=miss_le c B; unfold miss; split <;> omega
theorem miss_app (c:List Int) (w:Int):∀ B,miss (c ++ [w]) B≤miss c B
 | 0=>Nat.le_refl _
 | B + 1=>by
  have:=miss_app c w B
  unfold miss
  by_cases h:(B:Int) ∈ c
  ·rw [if_pos h,if_pos (List.mem_append_left _ h)]; omega
  ·rw [if_neg h]; split <;> omega
theorem miss_snoc {c:List Int} {w:Nat} (hc:(w:Int) ∉ c):∀ B,w < B→miss (c ++ [(w:Int)]) B + 1≤miss c B
 | 0=>fun h=>absurd h (Nat.not_lt_zero _)
 | B + 1=>fun h=>by
  unfold miss
  by_cases e:w=B
  ·subst e
   have:=miss_app c (w:Int) w
   rw [if_pos (List.mem_append_right _ (List.mem_singleton_self _)),if_neg hc]
   omega
  ·have ih:=miss_snoc hc B (by omega)
   by_cases hb:(B:Int) ∈ c
   ·rw [if_pos hb,if_pos (List.mem_append_left _ hb)]; omega
   ·have hb2:(B:Int) ∉ c ++ [(w:Int)]:=fun q=>by
     rcases List.mem_append.1 q with q | q
     ·exact hb q
     ·rw [List.mem_singleton] at q; omega
    rw [if_neg hb,if_neg hb2]; omega
structure G8 where
 n:Int
 ve:Value
 vr:Value
 vc:Value
 p4:Value
 p5:Value
 p6:Value
 p7:Value
def G8.cells (g:G8):List Value:=[.int .i64 g.n,g.ve,g.vr,g.vc,g.p4,g.p5,g.p6,g.p7]
def G8.v (g:G8):Value:=.agg #[.int .i64 g.n,g.ve,g.vr,g.vc,g.p4,g.p5,g.p6,g.p7]
def G8.zero:G8:=⟨0,undef,undef,undef,undef,undef,undef,undef⟩
def gcells (L:List G8):List Value:=L.flatMap G8.cells
theorem gcells_snoc (L:List G8) (g:G8):gcells (L ++ [g])=gcells L ++ g.cells:=by simp [gcells]
theorem gcells_get (L:List G8) (q:Nat) (hq:q < L.length) (j:Nat) (hj:j < 8):(gcells L)[q * 8 + j]?=(L.getD q G8.zero).cells[j]?:=by
 induction L generalizing q with
 | nil=>simp at hq
 | cons a L ih=>
  have e:gcells (a::L)=a.cells ++ gcells L:=rfl
  rw [e]
  cases q with
  | zero=>
   rw [List.getElem?_append_left (by show 0 * 8 + j < 8; omega)]
   simp
  | succ q=>
   rw [List.getElem?_append_right (by show 8≤(q + 1) * 8 + j; omega),show (q + 1) * 8 + j - a.cells.length=q * 8 + j from by show (q + 1) * 8 + j - 8=q * 8 + j; omega,ih q (by simpa using hq)]
   simp
def CoOk (B:Nat) (c:List Int):Prop:=c ≠ []∧∀ x ∈ c,0≤x∧x < (B:Int)
structure GOk (P:Nat→Prop) (W:World) (g:G8) (E:List Ev) (C:List (List Int)) (cvs:List Value):Prop where
 ev:W.ownsRow 0 49 6 g.ve E.length (ecs E)
 co:LB 0 W g.vc C cvs
 ok:∀ i,i < C.length→CoOk E.length (C.getD i [])∧(C.getD i []).length≤100
 el:E.length≤100
 cl:C.length≤4
 sl:Sl g.vr∧Sl g.p4∧Sl g.p5∧Sl g.p6∧Sl g.p7
 pe:∀ b,g.ve.ownBlock=some b→P b
 pc:∀ b,g.vc.ownBlock=some b→P b
 pl:∀ i,i < C.length→∀ b,(cvs.getD i undef).ownBlock=some b→P b
def KG (W:World) (b:Nat):Prop:=∃ cs t fr,W.heap[b]?=some (.cells cs t fr)∧(t=38 ∨ t=58)
theorem own_kg {W:World} {b e s n:Nat} {v:Value} {xs:List Value} (h:W.ownsRow b e s v n xs) (h1:e ≠ 38) (h2:e ≠ 58) {g:Nat} (hg:v.ownBlock=some g):¬ KG W g:=fun q=>by
 obtain ⟨c,f,a⟩:=Lib.ownsRow_kind h g hg
 obtain ⟨cs,t,fr,a2,a3⟩:=q
 rw [a] at a2
 simp only [Option.some.injEq,Obj.cells.injEq] at a2
 rcases a3 with r | r
 ·exact h1 (a2.2.1.trans r)
 ·exact h2 (a2.2.1.trans r)
section
variable {P:Nat→Prop} {W W':World} {g:G8} {E:List Ev} {C:List (List Int)} {cvs:List Value}
theorem GOk.fr {X:Nat→Prop} (h:GOk P W g E C cvs) (hf:Fr X W W') (hX:∀ b,X b→P b→KG W b):GOk P W' g E C cvs:=
 ⟨own_fr h.ev hf (fun b q r=>own_kg h.ev (by decide) (by decide) q (hX b r (h.pe b q))),h.co.fr hf (fun b q r=>own_kg h.co.own (by decide) (by decide) q (hX b r (h.pc b q))) (fun i hi b q r=>own_kg (h.co.el i hi) (by decide) (by decide) q (hX b r (h.pl i hi b q))),h.ok,h.el,h.cl,h.sl,h.pe,h.pc,h.pl⟩
theorem GOk.next (h:GOk P W g E C cvs) (hb:Below W.heap.size W W'):GOk P W' g E C cvs:=h.fr (Fr.of_below (X:=fun _=>False) hb) (fun _ q=>q.elim)
theorem GOk.mono {Q:Nat→Prop} (h:GOk P W g E C cvs) (hpq:∀ b,b < W.heap.size→P b→Q b):GOk Q W g E C cvs:=
 ⟨h.ev,h.co,h.ok,h.el,h.cl,h.sl,fun b q=>hpq b (h.ev.lt b q).2 (h.pe b q),fun b q=>hpq b (h.co.own.lt b q).2 (h.pc b q),fun i hi b q=>hpq b ((h.co.el i hi).lt b q).2 (h.pl i hi b q)⟩
end
structure CR (W:World) (rb cb:Nat) (G:List G8) (g:G8) (E:List Ev) (R:List Int) (C:List (List Int)) (cvs:List Value):Prop where
 gs:∀ x ∈ G,∃ E' C' cvs',GOk (fun b=>b ≠ rb∧b ≠ cb) W x E' C' cvs'
 gr:g.vr=.slice (some ⟨rb,0,none⟩) E.length E.length
 gc:g.vc=.slice (some ⟨cb,0,none⟩) C.length C.length
 gn:g.n=(C.length:Int)
 rf:W.heap[rb]?=some (.cells (nints R).toArray 3 (0,0))
 rl:R.length=E.length
 co:W.heap[cb]?=some (.cells cvs.toArray 22 (0,0))
 cl:cvs.length=C.length
 el:∀ i,i < C.length→LV W (cvs.getD i undef) (C.getD i [])∧∀ b,(cvs.getD i undef).ownBlock=some b→b ≠ rb
 ok:∀ i,i < C.length→CoOk E.length (C.getD i [])∧(C.getD i []).length + miss (C.getD i []) E.length≤E.length
 ev:W.ownsRow 0 49 6 g.ve E.length (ecs E)
 sl:Sl g.p4∧Sl g.p5∧Sl g.p6∧Sl g.p7
 le:E.length≤100
 lc:C.length≤2
 lle:C.length≤E.length
section
variable {W W':World} {rb cb:Nat} {G:List G8} {g:G8} {E:List Ev} {R:List Int} {C:List (List Int)} {cvs:List Value}
theorem CR.lt (h:CR W rb cb G g E R C cvs):rb < W.heap.size∧cb < W.heap.size:=⟨blk_lt h.rf,blk_lt h.co⟩
theorem CR.fr {X:Nat→Prop} (h:CR W rb cb G g E R C cvs) (hf:Fr X W W') (hX:∀ b,b < W.heap.size→X b→KG W b):CR W' rb cb G g E R C cvs:=by
 have k1:¬ X rb:=fun q=>by
  obtain ⟨cs,t,fr,a,b⟩:=hX rb h.lt.1 q
  rw [h.rf] at a; simp only [Option.some.injEq,Obj.cells.injEq] at a
  rcases b with b | b <;> rw [b] at a <;> exact absurd a.2.1 (by decide)
 have k2:¬ X cb:=fun q=>by
  obtain ⟨cs,t,fr,a,b⟩:=hX cb h.lt.2 q
  rw [h.co] at a; simp only [Option.some.injEq,Obj.cells.injEq] at a
  rcases b with b | b <;> rw [b] at a <;> exact absurd a.2.1 (by decide)
 exact ⟨fun x hx=>by obtain ⟨E',C',c',a⟩:=h.gs x hx; exact ⟨E',C',c',a.fr (X:=fun b=>b < W.heap.size∧X b) ⟨hf.os,hf.tape,hf.output,hf.size,fun b hb hn=>hf.keep b hb (fun q=>hn ⟨hb,q⟩)⟩ (fun b q _=>hX b q.1 q.2)⟩,
  h.gr,h.gc,h.gn,(hf.keep rb h.lt.1 k1).trans h.rf,h.rl,(hf.keep cb h.lt.2 k2).trans h.co,h.cl,
  fun i hi=>⟨own_fr (h.el i hi).1 hf (fun b q r=>own_kg (h.el i hi).1 (by decide) (by decide) q (hX b ((h.el i hi).1.lt b q).2 r)),(h.el i hi).2⟩,h.ok,
  own_fr h.ev hf (fun b q r=>own_kg h.ev (by decide) (by decide) q (hX b (h.ev.lt b q).2 r)),h.sl,h.le,h.lc,h.lle⟩
theorem CR.next (h:CR W rb cb G g E R C cvs) (hb:Below W.heap.size W W'):CR W' rb cb G g E R C cvs:=h.fr (Fr.of_below (X:=fun _=>False) hb) (fun _ _ q=>q.elim)
theorem CR.ne (h:CR W rb cb G g E R C cvs):rb ≠ cb:=fun q=>by
 have a:=h.rf; rw [q,h.co] at a; simp at a
theorem CR.cell (h:CR W rb cb G g E R C cvs) {i:Nat} (hi:i < C.length):W.cell? ⟨cb,i,none⟩=some (cvs.getD i undef)∧W.frozen? ⟨cb,i,none⟩=false:=by
 refine ⟨?_,frozen_of_row _ _ _ _ _ h.co⟩
 rw [cell_of_row _ _ _ _ _ _ h.co]
 simp [List.getD_eq_getElem?_getD,List.getElem?_eq_getElem (show i < cvs.length by rw [h.cl]; exact hi)]
theorem CR.lv (h:CR W rb cb G g E R C cvs):LV W g.vr R:=by
 rw [h.gr,← h.rl]
 exact ⟨by simp [nints],.inr ⟨rb,R.length,_,rfl,Nat.zero_le _,h.rf,Nat.le_refl _,by have:=h.le; have:=h.rl; unfold maxLen; omega,by simp [nints],by simp [nints,List.take_of_length_le]⟩⟩
theorem CR.lb (h:CR W rb cb G g E R C cvs):LB 0 W g.vc C cvs:=by
 refine ⟨?_,h.cl,fun i hi=>(h.el i hi).1⟩
 rw [h.gc]
 exact ⟨by simp [h.cl],.inr ⟨cb,C.length,_,rfl,Nat.zero_le _,h.co,Nat.le_refl _,by have:=h.lc; unfold maxLen; omega,by simp [h.cl],by simp [← h.cl]⟩⟩
theorem CR.setC (h:CR W rb cb G g E R C cvs) {i:Nat} (hi:i < C.length) {v:Value} {c:List Int} (hv:LV W v c) (hn:∀ b,v.ownBlock=some b→b ≠ rb) (hc:CoOk E.length c∧c.length + miss c E.length≤E.length):CR (W.setCell ⟨cb,i,none⟩ v) rb cb G g E R (C.set i c) (cvs.set i v):=by
 have hF:Fr (fun b=>b=cb) W (W.setCell ⟨cb,i,none⟩ v):=Fr.set W cb i v rfl
 refine ⟨fun x hx=>?_,h.gr,by rw [List.length_set]; exact h.gc,by rw [List.length_set]; exact h.gn,(hF.keep rb h.lt.1 h.ne).trans h.rf,h.rl,?_,by simp [h.cl],fun j hj=>?_,fun j hj=>?_,own_fr h.ev hF (fun b q r=>own_typ h.ev h.co (by decide) (by rw [q,r])),h.sl,h.le,by rw [List.length_set]; exact h.lc,by rw [List.length_set]; exact h.lle⟩
 ·obtain ⟨E',C',c',a⟩:=h.gs x hx
  exact ⟨E',C',c',a.fr hF (fun b q r=>absurd q r.2)⟩
 ·have:=heap_setCell_same W cb i _ _ v h.co
  rw [this]; simp
 ·rw [List.length_set] at hj
  by_cases e:j=i
  ·subst e
   have e1:(cvs.set j v).getD j undef=v:=by simp [List.getD_eq_getElem?_getD,h.cl,hj]
   have e2:(C.set j c).getD j []=c:=by simp [List.getD_eq_getElem?_getD,hj]
   rw [e1,e2]
   exact ⟨own_fr hv hF (fun b q r=>own_typ hv h.co (by decide) (by rw [q,r])),hn⟩
  ·have e1:(cvs.set i v).getD j undef=cvs.getD j undef:=by simp [List.getD_eq_getElem?_getD,List.getElem?_set_ne (fun q=>e q.symm)]
   have e2:(C.set i c).getD j []=C.getD j []:=by simp [List.getD_eq_getElem?_getD,List.getElem?_set_ne (fun q=>e q.symm)]
   rw [e1,e2]
   exact ⟨own_fr (h.el j hj).1 hF (fun b q r=>own_typ (h.el j hj).1 h.co (by decide) (by rw [q,r])),(h.el j hj).2⟩
 ·rw [List.length_set] at hj
  by_cases e:j=i
  ·subst e
   have e2:(C.set j c).getD j []=c:=by simp [List.getD_eq_getElem?_getD,hj]
   rw [e2]; exact hc
  ·have e2:(C.set i c).getD j []=C.getD j []:=by simp [List.getD_eq_getElem?_getD,List.getElem?_set_ne (fun q=>e q.symm)]
   rw [e2]; exact h.ok j hj
theorem CR.setR (h:CR W rb cb G g E R C cvs) (i:Nat) (x:Int):CR (W.setCell ⟨rb,i,none⟩ (.int .i64 x)) rb cb G g E (R.set i x) C cvs:=by
 have hF:Fr (fun b=>b=rb) W (W.setCell ⟨rb,i,none⟩ (.int .i64 x)):=Fr.set W rb i _ rfl
 refine ⟨fun y hy=>?_,h.gr,h.gc,h.gn,?_,by rw [List.length_set]; exact h.rl,(hF.keep cb h.lt.2 (fun q=>h.ne q.symm)).trans h.co,h.cl,fun j hj=>⟨own_fr (h.el j hj).1 hF (fun b q r=>(h.el j hj).2 b q r),(h.el j hj).2⟩,h.ok,own_fr h.ev hF (fun b q r=>own_typ h.ev h.rf (by decide) (by rw [q,r])),h.sl,h.le,h.lc,h.lle⟩
 ·obtain ⟨E',C',c',a⟩:=h.gs y hy
  exact ⟨E',C',c',a.fr hF (fun b q r=>absurd q r.1)⟩
 ·have:=heap_setCell_same W rb i _ _ (.int .i64 x) h.rf
  rw [this]; simp [nints,List.map_set]
theorem CR.cellR (h:CR W rb cb G g E R C cvs) {i:Nat} (hi:i < E.length):W.cell? ⟨rb,i,none⟩=some (.int .i64 (R.getD i 0))∧W.frozen? ⟨rb,i,none⟩=false:=by
 refine ⟨?_,frozen_of_row _ _ _ _ _ h.rf⟩
 rw [cell_of_row _ _ _ _ _ _ h.rf]
 simp [nints,List.getD_eq_getElem?_getD,List.getElem?_eq_getElem (show i < R.length by rw [h.rl]; exact hi)]
end
structure CS (w0 W:World) (eb rb cb:Nat) (vL:Value) (G:List G8) (big:Bool) (g:G8) (E:List Ev) (R:List Int) (C:List (List Int)) (cvs:List Value):Prop where
 box:W.heap[eb]?=some (.cells #[vL,.bool big] 58 (0,0))
 own:W.ownsRow w0.heap.size 38 8 vL G.length (gcells G)
 cr:CR W rb cb G g E R C cvs
def XE (eb rb cb:Nat) (vL:Value) (b:Nat):Prop:=b=eb ∨ b=rb ∨ b=cb ∨ vL.ownBlock=some b
section
variable {w0 W W':World} {eb rb cb:Nat} {vL:Value} {G:List G8} {big:Bool} {g:G8} {E:List Ev} {R:List Int} {C:List (List Int)} {cvs:List Value}
theorem CS.kg (h:CS w0 W eb rb cb vL G big g E R C cvs):KG W eb∧∀ b,vL.ownBlock=some b→KG W b:=
 ⟨⟨_,_,_,h.box,.inr rfl⟩,fun b q=>by obtain ⟨c,f,a⟩:=Lib.ownsRow_kind h.own b q; exact ⟨_,_,_,a,.inl rfl⟩⟩
theorem CS.ne (h:CS w0 W eb rb cb vL G big g E R C cvs):eb ≠ rb∧eb ≠ cb∧vL.ownBlock ≠ some eb∧vL.ownBlock ≠ some rb∧vL.ownBlock ≠ some cb:=
 ⟨fun q=>by have a:=h.box; rw [q,h.cr.rf] at a; simp at a,fun q=>by have a:=h.box; rw [q,h.cr.co] at a; simp at a,own_typ h.own h.box (by decide),own_typ h.own h.cr.rf (by decide),own_typ h.own h.cr.co (by decide)⟩
theorem CS.lt (h:CS w0 W eb rb cb vL G big g E R C cvs):eb < W.heap.size∧rb < W.heap.size∧cb < W.heap.size∧∀ b,vL.ownBlock=some b→b < W.heap.size:=⟨blk_lt h.box,h.cr.lt.1,h.cr.lt.2,fun b q=>(h.own.lt b q).2⟩
theorem CS.next (h:CS w0 W eb rb cb vL G big g E R C cvs) (hb:Below W.heap.size W W'):CS w0 W' eb rb cb vL G big g E R C cvs:=⟨(hb.block eb h.lt.1).trans h.box,own_below h.own hb,h.cr.next hb⟩
theorem CS.setC (h:CS w0 W eb rb cb vL G big g E R C cvs) {i:Nat} (hi:i < C.length) {v:Value} {c:List Int} (hv:LV W v c) (hn:∀ b,v.ownBlock=some b→b ≠ rb) (hc:CoOk E.length c∧c.length + miss c E.length≤E.length):CS w0 (W.setCell ⟨cb,i,none⟩ v) eb rb cb vL G big g E R (C.set i c) (cvs.set i v):=by
 have hF:Fr (fun b=>b=cb) W (W.setCell ⟨cb,i,none⟩ v):=Fr.set W cb i v rfl
 exact ⟨(hF.keep eb h.lt.1 h.ne.2.1).trans h.box,own_fr h.own hF (fun b q r=>h.ne.2.2.2.2 (by rw [q,r])),h.cr.setC hi hv hn hc⟩
theorem CS.setR (h:CS w0 W eb rb cb vL G big g E R C cvs) (i:Nat) (x:Int):CS w0 (W.setCell ⟨rb,i,none⟩ (.int .i64 x)) eb rb cb vL G big g E (R.set i x) C cvs:=by
 have hF:Fr (fun b=>b=rb) W (W.setCell ⟨rb,i,none⟩ (.int .i64 x)):=Fr.set W rb i _ rfl
 exact ⟨(hF.keep eb h.lt.1 h.ne.1).trans h.box,own_fr h.own hF (fun b q r=>h.ne.2.2.2.1 (by rw [q,r])),h.cr.setR i x⟩
theorem CS.setB (h:CS w0 W eb rb cb vL G big g E R C cvs) (b:Bool):CS w0 (W.setCell ⟨eb,1,none⟩ (.bool b)) eb rb cb vL G b g E R C cvs:=by
 have hF:Fr (fun b=>b=eb) W (W.setCell ⟨eb,1,none⟩ (.bool b)):=Fr.set W eb 1 _ rfl
 exact ⟨heap_setCell_same W eb 1 _ _ _ h.box,own_fr h.own hF (fun b q r=>h.ne.2.2.1 (by rw [q,r])),h.cr.fr hF (fun b _ q=>by rw [q]; exact h.kg.1)⟩
theorem CS.push {vL':Value} {g':G8} {E':List Ev} {C':List (List Int)} {cvs':List Value} (h:CS w0 W eb rb cb vL G big g E R C cvs) (hg':GOk (fun b=>b ≠ rb∧b ≠ cb) W g' E' C' cvs') (hg:W.grownBy W' vL.ownBlock) (ho:W'.ownsRow w0.heap.size 38 8 vL' (G.length + 1) (gcells G ++ g'.cells)) :
  CS w0 (W'.setCell ⟨eb,0,none⟩ vL') eb rb cb vL' (G ++ [g']) big g E R C cvs∧W'.cell? ⟨eb,0,none⟩=some vL∧W'.frozen? ⟨eb,0,none⟩=false:=by
 have hbx:=(hg.block eb h.lt.1 (fun q=>h.ne.2.2.1 q.symm)).trans h.box
 have hF1:Fr (fun b=>vL.ownBlock=some b) W W':=Fr.of_grown hg (fun b q=>q)
 have hF2:Fr (fun b=>b=eb) W' (W'.setCell ⟨eb,0,none⟩ vL'):=Fr.set W' eb 0 vL' rfl
 have hF:Fr (fun b=>vL.ownBlock=some b ∨ b=eb) W (W'.setCell ⟨eb,0,none⟩ vL'):=(hF1.mono (fun _ _ q=>.inl q)).trans (hF2.mono (fun _ _ q=>.inr q))
 have hK:∀ b,vL.ownBlock=some b ∨ b=eb→KG W b:=fun b q=>by
  rcases q with q | q
  ·exact h.kg.2 b q
  ·rw [q]; exact h.kg.1
 have hc:=h.cr.fr hF (fun b _ q=>hK b q)
 refine ⟨⟨heap_setCell_same W' eb 0 _ _ vL' hbx,?_,⟨fun x hx=>?_,hc.gr,hc.gc,hc.gn,hc.rf,hc.rl,hc.co,hc.cl,hc.el,hc.ok,hc.ev,hc.sl,hc.le,hc.lc,hc.lle⟩⟩,by simp only [World.cell?,hbx]; rfl,by simp only [World.frozen?,hbx]; rfl⟩
 ·rw [List.length_append,gcells_snoc]
  exact own_fr ho hF2 (fun b q r=>own_typ ho hbx (by decide) (by rw [q,r]))
 ·rcases List.mem_append.1 hx with q | q
  ·exact hc.gs x q
  ·rw [List.mem_singleton] at q; subst q
   exact ⟨E',C',cvs',hg'.fr hF (fun b q _=>hK b q)⟩
theorem CS.ce (h:CS w0 W eb rb cb vL G big g E R C cvs):W.cell? ⟨eb,0,none⟩=some vL∧W.cell? ⟨eb,1,none⟩=some (.bool big)∧W.frozen? ⟨eb,1,none⟩=false:=
 ⟨cell_of_row _ _ _ _ _ _ h.box,cell_of_row _ _ _ _ _ _ h.box,frozen_of_row _ _ _ _ _ h.box⟩
end
def CoV (w0 w w':World) (eb rb cb:Nat) (vL:Value) (g:G8) (E:List Ev) (n:Nat) (e:Ending):Prop:=∃ (x vL':Value) (G':List G8) (big':Bool) (R':List Int) (C':List (List Int)) (cvs':List Value),e=.returned x∧CS w0 w' eb rb cb vL' G' big' g E R' C' cvs'∧C'.length=n∧G'.length≤20001∧big'=decide (20000 < G'.length)∧Fr (XE eb rb cb vL) w w'∧NewB w vL vL'
end SndA
end Go.Proofs.Yteghpophcnehgaa
namespace Go.Proofs.Yteghpophcnehgaa
open Go.RowKit ExprA SndA
def ogM0:Oper:={ dst:=some 24,op:=Op.load 29 (Operand.tmp 23),type:=29,pos := "ref.go:86", after:=#[{ on:=3,ground:=Ground.data }],guard:=none }
def ogM1:Oper:={ dst:=some 25,op:=Op.load 38 (Operand.tmp 4),type:=38,pos := "ref.go:86", after:=#[],guard:=none }
def ogM2:Oper:={ dst:=some 26,op:=Op.call { callee:=Callee.value (Operand.func 79),args:=#[Operand.tmp 25],argTypes:=#[38] },type:=38,pos := "ref.go:86", after:=#[{ on:=5,ground:=Ground.data }],guard:=none }
def ogM3:Oper:={ dst:=some 27,op:=Op.buildSlice 29 1 #[(0,Operand.tmp 26)],type:=29,pos := "ref.go:86", after:=#[{ on:=6,ground:=Ground.data }],guard:=none }
def ogM4:Oper:={ dst:=some 28,op:=Op.call { callee:=Callee.builtin Builtin.append,args:=#[Operand.tmp 24,Operand.tmp 27],argTypes:=#[29,29] },type:=29,pos := "ref.go:86", after:=#[{ on:=4,ground:=Ground.data },{ on:=7,ground:=Ground.data },{ on:=6,ground:=Ground.chain }],guard:=none }
def ogM5:Oper:={ dst:=some 29,op:=Op.nilCheck (Operand.tmp 20),type:=0,pos := "ref.go:86", after:=#[{ on:=0,ground:=Ground.data },{ on:=0,ground:=Ground.phase },{ on:=1,ground:=Ground.phase },{ on:=2,ground:=Ground.phase },{ on:=3,ground:=Ground.phase },{ on:=4,ground:=Ground.phase },{ on:=5,ground:=Ground.phase },{ on:=6,ground:=Ground.phase },{ on:=7,ground:=Ground.phase },{ on:=8,ground:=Ground.phase }],guard:=none }
def ogM6:Oper:={ dst:=some 30,op:=Op.fieldAddr 58 (Operand.tmp 29) 0,type:=0,pos := "ref.go:86", after:=#[{ on:=9,ground:=Ground.data },{ on:=0,ground:=Ground.phase },{ on:=1,ground:=Ground.phase },{ on:=2,ground:=Ground.phase },{ on:=3,ground:=Ground.phase },{ on:=4,ground:=Ground.phase },{ on:=5,ground:=Ground.phase },{ on:=6,ground:=Ground.phase },{ on:=7,ground:=Ground.phase },{ on:=8,ground:=Ground.phase }],guard:=none }
def ogM7:Oper:={ dst:=none,op:=Op.store 29 (Operand.tmp 30) (Operand.tmp 28),type:=0,pos := "ref.go:86", after:=#[{ on:=10,ground:=Ground.data },{ on:=8,ground:=Ground.data },{ on:=8,ground:=Ground.chain },{ on:=0,ground:=Ground.phase },{ on:=1,ground:=Ground.phase },{ on:=2,ground:=Ground.phase },{ on:=3,ground:=Ground.phase },{ on:=4,ground:=Ground.phase },{ on:=5,ground:=Ground.phase },{ on:=6,ground:=Ground.phase },{ on:=7,ground:=Ground.phase },{ on:=8,ground:=Ground.phase }],guard:=none }
def ogM8:Oper:={ dst:=some 86,op:=Op.load 35 (Operand.tmp 85),type:=35,pos := "ref.go:100", after:=#[{ on:=0,ground:=Ground.data }],guard:=none }
def ogM9:Oper:={ dst:=some 89,op:=Op.call { callee:=Callee.builtin Builtin.append,args:=#[Operand.const (Value.slice none 0 0),Operand.tmp 88],argTypes:=#[22,22] },type:=22,pos := "ref.go:100", after:=#[{ on:=3,ground:=Ground.data }],guard:=none }
def ogM10:Oper:={ dst:=some 91,op:=Op.buildSlice 22 1 #[(0,Operand.tmp 90)],type:=22,pos := "ref.go:100", after:=#[{ on:=5,ground:=Ground.data }],guard:=none }
def ogM11:Oper:={ dst:=some 92,op:=Op.call { callee:=Callee.builtin Builtin.append,args:=#[Operand.tmp 89,Operand.tmp 91],argTypes:=#[22,22] },type:=22,pos := "ref.go:100", after:=#[{ on:=4,ground:=Ground.data },{ on:=6,ground:=Ground.data },{ on:=4,ground:=Ground.chain }],guard:=none }
def ogM12:Oper:={ dst:=some 93,op:=Op.indexAddr 35 (Operand.tmp 86) (Operand.tmp 87),type:=0,pos := "ref.go:100", after:=#[{ on:=1,ground:=Ground.data },{ on:=2,ground:=Ground.data },{ on:=0,ground:=Ground.phase },{ on:=1,ground:=Ground.phase },{ on:=2,ground:=Ground.phase },{ on:=3,ground:=Ground.phase },{ on:=4,ground:=Ground.phase },{ on:=5,ground:=Ground.phase },{ on:=6,ground:=Ground.phase },{ on:=7,ground:=Ground.phase }],guard:=none }
def ogM13:Oper:={ dst:=none,op:=Op.store 22 (Operand.tmp 93) (Operand.tmp 92),type:=0,pos := "ref.go:100", after:=#[{ on:=8,ground:=Ground.data },{ on:=7,ground:=Ground.data },{ on:=7,ground:=Ground.chain },{ on:=0,ground:=Ground.phase },{ on:=1,ground:=Ground.phase },{ on:=2,ground:=Ground.phase },{ on:=3,ground:=Ground.phase },{ on:=4,ground:=Ground.phase },{ on:=5,ground:=Ground.phase },{ on:=6,ground:=Ground.phase },{ on:=7,ground:=Ground.phase }],guard:=none }
def rgM0:Array Oper:=#[{ dst:=some 20,op:=Op.move (Operand.tmp 0),type:=56,pos := "ref.go:86", after:=#[],guard:=none },{ dst:=some 21,op:=Op.move (Operand.tmp 0),type:=56,pos := "ref.go:86", after:=#[],guard:=none },{ dst:=some 22,op:=Op.nilCheck (Operand.tmp 21),type:=0,pos := "ref.go:86", after:=#[{ on:=1,ground:=Ground.data }],guard:=none },{ dst:=some 23,op:=Op.fieldAddr 58 (Operand.tmp 22) 0,type:=0,pos := "ref.go:86", after:=#[{ on:=2,ground:=Ground.data }],guard:=none },{ dst:=some 24,op:=Op.load 29 (Operand.tmp 23),type:=29,pos := "ref.go:86", after:=#[{ on:=3,ground:=Ground.data }],guard:=none },{ dst:=some 25,op:=Op.load 38 (Operand.tmp 4),type:=38,pos := "ref.go:86", after:=#[],guard:=none },{ dst:=some 26,op:=Op.call { callee:=Callee.value (Operand.func 79),args:=#[Operand.tmp 25],argTypes:=#[38] },type:=38,pos := "ref.go:86", after:=#[{ on:=5,ground:=Ground.data }],guard:=none },{ dst:=some 27,op:=Op.buildSlice 29 1 #[(0,Operand.tmp 26)],type:=29,pos := "ref.go:86", after:=#[{ on:=6,ground:=Ground.data }],guard:=none },{ dst:=some 28,op:=Op.call { callee:=Callee.builtin Builtin.append,args:=#[Operand.tmp 24,Operand.tmp 27],argTypes:=#[29,29] },type:=29,pos := "ref.go:86", after:=#[{ on:=4,ground:=Ground.data },{ on:=7,ground:=Ground.data },{ on:=6,ground:=Ground.chain }],guard:=none },{ dst:=some 29,op:=Op.nilCheck (Operand.tmp 20),type:=0,pos := "ref.go:86", after:=#[{ on:=0,ground:=Ground.data },{ on:=0,ground:=Ground.phase },{ on:=1,ground:=Ground.phase },{ on:=2,ground:=Ground.phase },{ on:=3,ground:=Ground.phase },{ on:=4,ground:=Ground.phase },{ on:=5,ground:=Ground.phase },{ on:=6,ground:=Ground.phase },{ on:=7,ground:=Ground.phase },{ on:=8,ground:=Ground.phase }],guard:=none },{ dst:=some 30,op:=Op.fieldAddr 58 (Operand.tmp 29) 0,type:=0,pos := "ref.go:86", after:=#[{ on:=9,ground:=Ground.data },{ on:=0,ground:=Ground.phase },{ on:=1,ground:=Ground.phase },{ on:=2,ground:=Ground.phase },{ on:=3,ground:=Ground.phase },{ on:=4,ground:=Ground.phase },{ on:=5,ground:=Ground.phase },{ on:=6,ground:=Ground.phase },{ on:=7,ground:=Ground.phase },{ on:=8,ground:=Ground.phase }],guard:=none },{ dst:=none,op:=Op.store 29 (Operand.tmp 30) (Operand.tmp 28),type:=0,pos := "ref.go:86", after:=#[{ on:=10,ground:=Ground.data },{ on:=8,ground:=Ground.data },{ on:=8,ground:=Ground.chain },{ on:=0,ground:=Ground.phase },{ on:=1,ground:=Ground.phase },{ on:=2,ground:=Ground.phase },{ on:=3,ground:=Ground.phase },{ on:=4,ground:=Ground.phase },{ on:=5,ground:=Ground.phase },{ on:=6,ground:=Ground.phase },{ on:=7,ground:=Ground.phase },{ on:=8,ground:=Ground.phase }],guard:=none }]
def rgM1:Array Oper:=#[{ dst:=some 85,op:=Op.fieldAddr 38 (Operand.tmp 4) 3,type:=0,pos := "ref.go:100", after:=#[],guard:=none },{ dst:=some 86,op:=Op.load 35 (Operand.tmp 85),type:=35,pos := "ref.go:100", after:=#[{ on:=0,ground:=Ground.data }],guard:=none },{ dst:=some 87,op:=Op.move (Operand.tmp 2),type:=3,pos := "ref.go:100", after:=#[],guard:=none },{ dst:=some 88,op:=Op.move (Operand.tmp 7),type:=22,pos := "ref.go:100", after:=#[],guard:=none },{ dst:=some 89,op:=Op.call { callee:=Callee.builtin Builtin.append,args:=#[Operand.const (Value.slice none 0 0),Operand.tmp 88],argTypes:=#[22,22] },type:=22,pos := "ref.go:100", after:=#[{ on:=3,ground:=Ground.data }],guard:=none },{ dst:=some 90,op:=Op.move (Operand.tmp 8),type:=3,pos := "ref.go:100", after:=#[],guard:=none },{ dst:=some 91,op:=Op.buildSlice 22 1 #[(0,Operand.tmp 90)],type:=22,pos := "ref.go:100", after:=#[{ on:=5,ground:=Ground.data }],guard:=none },{ dst:=some 92,op:=Op.call { callee:=Callee.builtin Builtin.append,args:=#[Operand.tmp 89,Operand.tmp 91],argTypes:=#[22,22] },type:=22,pos := "ref.go:100", after:=#[{ on:=4,ground:=Ground.data },{ on:=6,ground:=Ground.data },{ on:=4,ground:=Ground.chain }],guard:=none },{ dst:=some 93,op:=Op.indexAddr 35 (Operand.tmp 86) (Operand.tmp 87),type:=0,pos := "ref.go:100", after:=#[{ on:=1,ground:=Ground.data },{ on:=2,ground:=Ground.data },{ on:=0,ground:=Ground.phase },{ on:=1,ground:=Ground.phase },{ on:=2,ground:=Ground.phase },{ on:=3,ground:=Ground.phase },{ on:=4,ground:=Ground.phase },{ on:=5,ground:=Ground.phase },{ on:=6,ground:=Ground.phase },{ on:=7,ground:=Ground.phase }],guard:=none },{ dst:=none,op:=Op.store 22 (Operand.tmp 93) (Operand.tmp 92),type:=0,pos := "ref.go:100", after:=#[{ on:=8,ground:=Ground.data },{ on:=7,ground:=Ground.data },{ on:=7,ground:=Ground.chain },{ on:=0,ground:=Ground.phase },{ on:=1,ground:=Ground.phase },{ on:=2,ground:=Ground.phase },{ on:=3,ground:=Ground.phase },{ on:=4,ground:=Ground.phase },{ on:=5,ground:=Ground.phase },{ on:=6,ground:=Ground.phase },{ on:=7,ground:=Ground.phase }],guard:=none }]
namespace SndA
theorem gcells_one {g:G8} (h:Sl g.ve∧Sl g.vr∧Sl g.vc∧Sl g.p4∧Sl g.p5∧Sl g.p6∧Sl g.p7):∀ u ∈ g.cells,u.oneCell'=true:=by
 obtain ⟨⟨_,_,_,a⟩,⟨_,_,_,b⟩,⟨_,_,_,c⟩,⟨_,_,_,d⟩,⟨_,_,_,e⟩,⟨_,_,_,f⟩,⟨_,_,_,i⟩⟩:=h
 intro u hu
 simp only [G8.cells,a,b,c,d,e,f,i,List.mem_cons,List.not_mem_nil,or_false] at hu
 rcases hu with rfl | rfl | rfl | rfl | rfl | rfl | rfl | rfl <;> rfl
end SndA
set_option maxRecDepth 20000 in
set_option maxHeartbeats 8000000 in
theorem coreg3_l (w0 w:World) (eb rb cb pb:Nat) (vL:Value) (G:List G8) (big:Bool) (g:G8) (E:List Ev) (R:List Int) (C:List (List Int)) (cvs:List Value) (hS:CS w0 w eb rb cb vL G big g E R C cvs) (hw0:w0.heap.size≤w.heap.size) (hG:G.length≤20000) (hp:w.heap[pb]?=some (.cells g.cells.toArray 38 (0,0))) (hve:Sl g.ve)
  (z1 z2 z3 z5 z6 z7 z8 z9 z10 z11 z12 z13 z14 z15 z16 z17 z18 z19 z20 z21 z22 z23 z24 z25 z26 z27 z28 z29 z30 z31 z32 z33 z34 z35 z36 z37 z38 z39 z40 z41 z42 z43 z44 z45 z46 z47 z48 z49 z50 z51 z52 z53 z54 z55 z56 z57 z58 z59 z60 z61 z62 z63 z64 z65 z66 z67 z68 z69 z70 z71 z72 z73 z74 z75 z76 z77 z78 z79 z80 z81 z82 z83 z84 z85 z86 z87 z88 z89 z90 z91 z92 z93 z94 z95 z96 z97 z98 z99 z100 z101 z102 z103 z104 z105 z106 z107 z108 z109:Value) (Q:Exit→Act→World→Prop)
  (hQp:∀ c (a:Act) (d:Tmp) v w,Q (.panic c) (a.put (some d) v) w→Q (.panic c) a w)
  (hQ:∀ (y20 y21 y22 y23 y24 y25 y26 y27 y28 y29 y30 vL':Value) (g':G8) (W:World),CS w0 W eb rb cb vL' (G ++ [g']) big g E R C cvs→Fr (XE eb rb cb vL) w W→NewB w vL vL'→Q .normal { tmps:=(.pointer (some ⟨eb,0,none⟩)::z1::z2::z3::.pointer (some ⟨pb,0,none⟩)::z5::z6::z7::z8::z9::z10::z11::z12::z13::z14::z15::z16::z17::z18::z19::y20::y21::y22::y23::y24::y25::y26::y27::y28::y29::y30::z31::z32::z33::z34::z35::z36::z37::z38::z39::z40::z41::z42::z43::z44::z45::z46::z47::z48::z49::z50::z51::z52::z53::z54::z55::z56::z57::z58::z59::z60::z61::z62::z63::z64::z65::z66::z67::z68::z69::z70::z71::z72::z73::z74::z75::z76::z77::z78::z79::z80::z81::z82::z83::z84::z85::z86::z87::z88::z89::z90::z91::z92::z93::z94::z95::z96::z97::z98::z99::z100::z101::z102::z103::z104::z105::z106::z107::z108::z109::[]).toArray,defers:=[] } W) :
  Code.wp Try.prog (Code.region 3 rgM0 true) Q { tmps:=(.pointer (some ⟨eb,0,none⟩)::z1::z2::z3::.pointer (some ⟨pb,0,none⟩)::z5::z6::z7::z8::z9::z10::z11::z12::z13::z14::z15::z16::z17::z18::z19::z20::z21::z22::z23::z24::z25::z26::z27::z28::z29::z30::z31::z32::z33::z34::z35::z36::z37::z38::z39::z40::z41::z42::z43::z44::z45::z46::z47::z48::z49::z50::z51::z52::z53::z54::z55::z56::z57::z58::z59::z60::z61::z62::z63::z64::z65::z66::z67::z68::z69::z70::z71::z72::z73::z74::z75::z76::z77::z78::z79::z80::z81::z82::z83::z84::z85::z86::z87::z88::z89::z90::z91::z92::z93::z94::z95::z96::z97::z98::z99::z100::z101::z102::z103::z104::z105::z106::z107::z108::z109::[]).toArray,defers:=[] } w:=by
 unfold rgM0
 refine wp_region_any (by kernel_rfl) ?_
 have hX:=hS.next (bel_drewN w 1)
 have hW:Below w.heap.size w (World.drew w):=bel_drewN w 1
 obtain ⟨gn,ve,vr,vc,p4,p5,p6,p7⟩:=g
 have hsl:=hS.cr.sl
 dsimp only at hsl hve
 have HC:Hid (∀ W,Below w.heap.size w W→Calls Try.prog 79 #[.agg #[.int .i64 gn,ve,vr,vc,p4,p5,p6,p7]] W fun e w'=>CopyV W.heap.size w' gn ve p4 p5 p6 p7 R C e∧Below W.heap.size W w'):=Lib.hid fun W hb=>by
  have hc:=hS.cr.next hb
  exact rcopied_any gn ve vr vc p4 p5 p6 p7 R C cvs W ⟨hve,hsl⟩ hc.lv (by rw [hc.rl]; have:=hc.le; omega) hc.lb (by have:=hc.lc; omega) (fun i hi=>by have:=(hc.ok i hi).2; have:=hc.le; omega)
 have hLe:=hS.cr.le
 have hLc:=hS.cr.lc
 have hOK:=hS.cr.ok
 have hLt:=hS.lt
 clear hS
 have q0:w.cell? ⟨pb,0,none⟩=some (.int .i64 gn):=cell_of_row _ _ _ _ _ _ hp
 have q1:w.cell? ⟨pb,1,none⟩=some ve:=cell_of_row _ _ _ _ _ _ hp
 have q2:w.cell? ⟨pb,2,none⟩=some vr:=cell_of_row _ _ _ _ _ _ hp
 have q3:w.cell? ⟨pb,3,none⟩=some vc:=cell_of_row _ _ _ _ _ _ hp
 have q4:w.cell? ⟨pb,4,none⟩=some p4:=cell_of_row _ _ _ _ _ _ hp
 have q5:w.cell? ⟨pb,5,none⟩=some p5:=cell_of_row _ _ _ _ _ _ hp
 have q6:w.cell? ⟨pb,6,none⟩=some p6:=cell_of_row _ _ _ _ _ _ hp
 have q7:w.cell? ⟨pb,7,none⟩=some p7:=cell_of_row _ _ _ _ _ _ hp
 clear hp
 change wpAny _ _ _ _ _ _ _ (World.drew _)
 change CS w0 (World.drew w) _ _ _ _ _ _ _ _ _ _ _ at hX
 generalize World.drew w=W at hX hW ⊢
 refine wpAny_take (i:=0) (v:=.pointer (some ⟨eb,0,none⟩)) rfl (by kernel_rfl) (by kernel_rfl) (by kernel_rfl) (fun c a w=>hQp c a _ _ w) (Or.inl ⟨by rfl,?_⟩) ?_
 ·intro w
  go_simp
 refine wpAny_take (i:=1) (v:=.pointer (some ⟨eb,0,none⟩)) rfl (by kernel_rfl) (by kernel_rfl) (by kernel_rfl) (fun c a w=>hQp c a _ _ w) (Or.inl ⟨by rfl,?_⟩) ?_
 ·intro w
  go_simp
 refine wpAny_take (i:=2) (v:=.pointer (some ⟨eb,0,none⟩)) rfl (by kernel_rfl) (by kernel_rfl) (by kernel_rfl) (fun c a w=>hQp c a _ _ w) (Or.inl ⟨by rfl,?_⟩) ?_
 ·intro w
  go_simp
 refine wpAny_take (i:=3) (v:=.pointer (some ⟨eb,0,none⟩)) rfl (by kernel_rfl) (by kernel_rfl) (by kernel_rfl) (fun c a w=>hQp c a _ _ w) (Or.inl ⟨by rfl,?_⟩) ?_
 ·intro w
  go_simp
 show wpAny _ _ _ _ 8 _ _ _
 refine wpAny_all (rs:=[4,5]) (by kernel_rfl) (by simp) ?_
 intro i hi
 simp only [List.mem_cons,List.not_mem_nil,or_false] at hi
 rcases hi with rfl | rfl
 ·have d1:=hX.ce.1
  refine wpOp_one (o:=ogM0) (by rfl) rfl ?_
  unfold ogM0
  unfold Oper.wp
  go_simp
  clear d1
  refine wpAny_all (rs:=[5]) (by kernel_rfl) (by simp) ?_
  intro i hi
  simp only [List.mem_singleton] at hi
  subst hi
  have c0:=cell_next q0 hW
  have c1:=cell_next q1 hW
  have c2:=cell_next q2 hW
  have c3:=cell_next q3 hW
  have c4:=cell_next q4 hW
  have c5:=cell_next q5 hW
  have c6:=cell_next q6 hW
  have c7:=cell_next q7 hW
  refine wpOp_one (o:=ogM1) (by rfl) rfl ?_
  unfold ogM1
  unfold Oper.wp
  go_simp
  clear c0 c1 c2 c3 c4 c5 c6 c7
  refine wpAny_all (rs:=[6]) (by kernel_rfl) (by simp) ?_
  intro i hi
  simp only [List.mem_singleton] at hi
  subst hi
  refine wpOp_one (o:=ogM2) (by rfl) rfl ?_
  unfold ogM2
  unfold Oper.wp
  go_simp
  refine (HC.out _ hW).mono ?_
  rintro e6 W6 ⟨⟨vr6,vc6,cv6,rfl,h6r,h6c,h6n⟩,hb6⟩
  dsimp only
  have hX6:=hX.next hb6
  have hg6:GOk (fun b=>b ≠ rb∧b ≠ cb) W6 ⟨gn,ve,vr6,vc6,p4,p5,p6,p7⟩ E C cv6:=⟨hX6.cr.ev,h6c.lower (Nat.zero_le _),fun i hi=>⟨(hOK i hi).1,by have:=(hOK i hi).2; omega⟩,hLe,by omega,⟨by obtain ⟨x,y,z⟩:=own_len h6r; exact ⟨_,_,_,z⟩,hsl⟩,
   fun b q=>⟨fun r=>own_typ hX6.cr.ev hX6.cr.rf (by decide) (by rw [← r]; exact q),fun r=>own_typ hX6.cr.ev hX6.cr.co (by decide) (by rw [← r]; exact q)⟩,
   fun b q=>by have:=(h6c.own.lt b q).1; have:=hW.size; have h2:=hLt.2.1; have h3:=hLt.2.2.1; exact ⟨by omega,by omega⟩,
   fun i hi b q=>by have:=h6n i hi b q; have:=hW.size; have h2:=hLt.2.1; have h3:=hLt.2.2.1; exact ⟨by omega,by omega⟩⟩
  have h61:∀ u ∈ (⟨gn,ve,vr6,vc6,p4,p5,p6,p7⟩:G8).cells,u.oneCell'=true:=gcells_one ⟨hve,by obtain ⟨x,y,z⟩:=own_len h6r; exact ⟨_,_,_,z⟩,by obtain ⟨x,y,z⟩:=own_len h6c.own; exact ⟨_,_,_,z⟩,hsl⟩
  clear hX h6r h6c h6n
  have hX:=hX6
  clear hX6
  refine wpAny_all (rs:=[7]) (by kernel_rfl) (by simp) ?_
  intro i hi
  simp only [List.mem_singleton] at hi
  subst hi
  have hg7:=hg6.next ((Below.refl W6.heap.size W6).alloc (Nat.le_refl _) (Obj.cells ([.int .i64 gn,ve,vr6,vc6,p4,p5,p6,p7]:List Value).toArray 38 (0,0)))
  have hX7:=hX.next ((Below.refl W6.heap.size W6).alloc (Nat.le_refl _) (Obj.cells ([.int .i64 gn,ve,vr6,vc6,p4,p5,p6,p7]:List Value).toArray 38 (0,0)))
  clear hX
  have hX:=hX7
  clear hX7 hg6
  obtain ⟨⟨sa,sb,sc,sd⟩,⟨s1a,s1b,s1c,s1d⟩,⟨s2a,s2b,s2c,s2d⟩,⟨s3a,s3b,s3c,s3d⟩,⟨s4a,s4b,s4c,s4d⟩,⟨s5a,s5b,s5c,s5d⟩,⟨s6a,s6b,s6c,s6d⟩⟩:Sl ve∧Sl vr6∧Sl vc6∧Sl p4∧Sl p5∧Sl p6∧Sl p7:=⟨hve,hg7.sl.1,(by obtain ⟨x,y,z⟩:=own_len hg7.co.own; exact ⟨_,_,_,z⟩),hg7.sl.2⟩
  subst sd s1d s2d s3d s4d s5d s6d
  refine wpOp_one (o:=ogM3) (by rfl) rfl ?_
  unfold ogM3
  unfold Oper.wp
  go_simp
  refine wpAny_all (rs:=[8]) (by kernel_rfl) (by simp) ?_
  intro i hi
  simp only [List.mem_singleton] at hi
  subst hi
  obtain ⟨v8,W8,hr8,hn8,hg8,hv8⟩:=app_any hX.own (by have:=hW.size; have:=hb6.size; simp; omega) Try.underlying29 infoGr rfl (by omega) (by omega) 29 (some ⟨W6.heap.size,0,none⟩) 1 1 [.int .i64 gn,.slice sa sb sc,.slice s1a s1b s1c,.slice s2a s2b s2c,.slice s3a s3b s3c,.slice s4a s4b s4c,.slice s5a s5b s5c,.slice s6a s6b s6c] rfl (.inr ⟨_,rfl,World.news_of_block (cs:=([.int .i64 gn,.slice sa sb sc,.slice s1a s1b s1c,.slice s2a s2b s2c,.slice s3a s3b s3c,.slice s4a s4b s4c,.slice s5a s5b s5c,.slice s6a s6b s6c]:List Value).toArray) (t:=38) (fr:=(0,0)) (heap_alloc_new W6 _)⟩) h61 (by omega)
  obtain ⟨hE8,k1,k2⟩:=hX.push hg7 hg8 hn8
  obtain ⟨a8,c8,rfl⟩:=own_len hn8
  refine wpOp_one (o:=ogM4) (by rfl) rfl ?_
  unfold ogM4
  refine appOp (Operand.tmp 24) (Operand.tmp 27) 29 rfl (by kernel_rfl) (by kernel_rfl) hr8 ?_
  refine wpAny_all (rs:=[9]) (by kernel_rfl) (by simp) ?_
  intro i hi
  simp only [List.mem_singleton] at hi
  subst hi
  refine wpOp_one (o:=ogM5) (by rfl) rfl ?_
  unfold ogM5
  unfold Oper.wp
  go_simp
  refine wpAny_all (rs:=[10]) (by kernel_rfl) (by simp) ?_
  intro i hi
  simp only [List.mem_singleton] at hi
  subst hi
  refine wpOp_one (o:=ogM6) (by rfl) rfl ?_
  unfold ogM6
  unfold Oper.wp
  go_simp
  refine wpAny_all (rs:=[11]) (by kernel_rfl) (by simp) ?_
  intro i hi
  simp only [List.mem_singleton] at hi
  subst hi
  refine wpOp_one (o:=ogM7) (by rfl) rfl ?_
  unfold ogM7
  unfold Oper.wp
  go_simp
  refine wpAny_done (by kernel_rfl) ?_ _
  refine hQ _ _ _ _ _ _ _ _ _ _ _ _ _ (W8.setCell ⟨eb,0,none⟩ _) hE8 ?_ ?_
  ·exact ((((Fr.of_below hW).trans (Fr.of_below hb6)).trans (Fr.of_below ((Below.refl W6.heap.size W6).alloc (Nat.le_refl _) _))).trans (Fr.of_grown hg8 (fun b q=>.inr (.inr (.inr q))))).trans (Fr.set W8 eb 0 _ (.inl rfl))
  ·rcases hv8 with q | q
   ·exact .inl q
   ·exact .inr ⟨_,q,by have:=hW.size; have:=hb6.size; simp; omega⟩
 ·have c0:=cell_next q0 hW
  have c1:=cell_next q1 hW
  have c2:=cell_next q2 hW
  have c3:=cell_next q3 hW
  have c4:=cell_next q4 hW
  have c5:=cell_next q5 hW
  have c6:=cell_next q6 hW
  have c7:=cell_next q7 hW
  refine wpOp_one (o:=ogM1) (by rfl) rfl ?_
  unfold ogM1
  unfold Oper.wp
  go_simp
  clear c0 c1 c2 c3 c4 c5 c6 c7
  refine wpAny_all (rs:=[4,6]) (by kernel_rfl) (by simp) ?_
  intro i hi
  simp only [List.mem_cons,List.not_mem_nil,or_false] at hi
  rcases hi with rfl | rfl
  ·have d1:=hX.ce.1
   refine wpOp_one (o:=ogM0) (by rfl) rfl ?_
   unfold ogM0
   unfold Oper.wp
   go_simp
   clear d1
   refine wpAny_all (rs:=[6]) (by kernel_rfl) (by simp) ?_
   intro i hi
   simp only [List.mem_singleton] at hi
   subst hi
   refine wpOp_one (o:=ogM2) (by rfl) rfl ?_
   unfold ogM2
   unfold Oper.wp
   go_simp
   refine (HC.out _ hW).mono ?_
   rintro e6 W6 ⟨⟨vr6,vc6,cv6,rfl,h6r,h6c,h6n⟩,hb6⟩
   dsimp only
   have hX6:=hX.next hb6
   have hg6:GOk (fun b=>b ≠ rb∧b ≠ cb) W6 ⟨gn,ve,vr6,vc6,p4,p5,p6,p7⟩ E C cv6:=⟨hX6.cr.ev,h6c.lower (Nat.zero_le _),fun i hi=>⟨(hOK i hi).1,by have:=(hOK i hi).2; omega⟩,hLe,by omega,⟨by obtain ⟨x,y,z⟩:=own_len h6r; exact ⟨_,_,_,z⟩,hsl⟩,
    fun b q=>⟨fun r=>own_typ hX6.cr.ev hX6.cr.rf (by decide) (by rw [← r]; exact q),fun r=>own_typ hX6.cr.ev hX6.cr.co (by decide) (by rw [← r]; exact q)⟩,
    fun b q=>by have:=(h6c.own.lt b q).1; have:=hW.size; have h2:=hLt.2.1; have h3:=hLt.2.2.1; exact ⟨by omega,by omega⟩,
    fun i hi b q=>by have:=h6n i hi b q; have:=hW.size; have h2:=hLt.2.1; have h3:=hLt.2.2.1; exact ⟨by omega,by omega⟩⟩
   have h61:∀ u ∈ (⟨gn,ve,vr6,vc6,p4,p5,p6,p7⟩:G8).cells,u.oneCell'=true:=gcells_one ⟨hve,by obtain ⟨x,y,z⟩:=own_len h6r; exact ⟨_,_,_,z⟩,by obtain ⟨x,y,z⟩:=own_len h6c.own; exact ⟨_,_,_,z⟩,hsl⟩
   clear hX h6r h6c h6n
   have hX:=hX6
   clear hX6
   refine wpAny_all (rs:=[7]) (by kernel_rfl) (by simp) ?_
   intro i hi
   simp only [List.mem_singleton] at hi
   subst hi
   have hg7:=hg6.next ((Below.refl W6.heap.size W6).alloc (Nat.le_refl _) (Obj.cells ([.int .i64 gn,ve,vr6,vc6,p4,p5,p6,p7]:List Value).toArray 38 (0,0)))
   have hX7:=hX.next ((Below.refl W6.heap.size W6).alloc (Nat.le_refl _) (Obj.cells ([.int .i64 gn,ve,vr6,vc6,p4,p5,p6,p7]:List Value).toArray 38 (0,0)))
   clear hX
   have hX:=hX7
   clear hX7 hg6
   obtain ⟨⟨sa,sb,sc,sd⟩,⟨s1a,s1b,s1c,s1d⟩,⟨s2a,s2b,s2c,s2d⟩,⟨s3a,s3b,s3c,s3d⟩,⟨s4a,s4b,s4c,s4d⟩,⟨s5a,s5b,s5c,s5d⟩,⟨s6a,s6b,s6c,s6d⟩⟩:Sl ve∧Sl vr6∧Sl vc6∧Sl p4∧Sl p5∧Sl p6∧Sl p7:=⟨hve,hg7.sl.1,(by obtain ⟨x,y,z⟩:=own_len hg7.co.own; exact ⟨_,_,_,z⟩),hg7.sl.2⟩
   subst sd s1d s2d s3d s4d s5d s6d
   refine wpOp_one (o:=ogM3) (by rfl) rfl ?_
   unfold ogM3
   unfold Oper.wp
   go_simp
   refine wpAny_all (rs:=[8]) (by kernel_rfl) (by simp) ?_
   intro i hi
   simp only [List.mem_singleton] at hi
   subst hi
   obtain ⟨v8,W8,hr8,hn8,hg8,hv8⟩:=app_any hX.own (by have:=hW.size; have:=hb6.size; simp; omega) Try.underlying29 infoGr rfl (by omega) (by omega) 29 (some ⟨W6.heap.size,0,none⟩) 1 1 [.int .i64 gn,.slice sa sb sc,.slice s1a s1b s1c,.slice s2a s2b s2c,.slice s3a s3b s3c,.slice s4a s4b s4c,.slice s5a s5b s5c,.slice s6a s6b s6c] rfl (.inr ⟨_,rfl,World.news_of_block (cs:=([.int .i64 gn,.slice sa sb sc,.slice s1a s1b s1c,.slice s2a s2b s2c,.slice s3a s3b s3c,.slice s4a s4b s4c,.slice s5a s5b s5c,.slice s6a s6b s6c]:List Value).toArray) (t:=38) (fr:=(0,0)) (heap_alloc_new W6 _)⟩) h61 (by omega)
   obtain ⟨hE8,k1,k2⟩:=hX.push hg7 hg8 hn8
   obtain ⟨a8,c8,rfl⟩:=own_len hn8
   refine wpOp_one (o:=ogM4) (by rfl) rfl ?_
   unfold ogM4
   refine appOp (Operand.tmp 24) (Operand.tmp 27) 29 rfl (by kernel_rfl) (by kernel_rfl) hr8 ?_
   refine wpAny_all (rs:=[9]) (by kernel_rfl) (by simp) ?_
   intro i hi
   simp only [List.mem_singleton] at hi
   subst hi
   refine wpOp_one (o:=ogM5) (by rfl) rfl ?_
   unfold ogM5
   unfold Oper.wp
   go_simp
   refine wpAny_all (rs:=[10]) (by kernel_rfl) (by simp) ?_
   intro i hi
   simp only [List.mem_singleton] at hi
   subst hi
   refine wpOp_one (o:=ogM6) (by rfl) rfl ?_
   unfold ogM6
   unfold Oper.wp
   go_simp
   refine wpAny_all (rs:=[11]) (by kernel_rfl) (by simp) ?_
   intro i hi
   simp only [List.mem_singleton] at hi
   subst hi
   refine wpOp_one (o:=ogM7) (by rfl) rfl ?_
   unfold ogM7
   unfold Oper.wp
   go_simp
   refine wpAny_done (by kernel_rfl) ?_ _
   refine hQ _ _ _ _ _ _ _ _ _ _ _ _ _ (W8.setCell ⟨eb,0,none⟩ _) hE8 ?_ ?_
   ·exact ((((Fr.of_below hW).trans (Fr.of_below hb6)).trans (Fr.of_below ((Below.refl W6.heap.size W6).alloc (Nat.le_refl _) _))).trans (Fr.of_grown hg8 (fun b q=>.inr (.inr (.inr q))))).trans (Fr.set W8 eb 0 _ (.inl rfl))
   ·rcases hv8 with q | q
    ·exact .inl q
    ·exact .inr ⟨_,q,by have:=hW.size; have:=hb6.size; simp; omega⟩
  ·refine wpOp_one (o:=ogM2) (by rfl) rfl ?_
   unfold ogM2
   unfold Oper.wp
   go_simp
   refine (HC.out _ hW).mono ?_
   rintro e6 W6 ⟨⟨vr6,vc6,cv6,rfl,h6r,h6c,h6n⟩,hb6⟩
   dsimp only
   have hX6:=hX.next hb6
   have hg6:GOk (fun b=>b ≠ rb∧b ≠ cb) W6 ⟨gn,ve,vr6,vc6,p4,p5,p6,p7⟩ E C cv6:=⟨hX6.cr.ev,h6c.lower (Nat.zero_le _),fun i hi=>⟨(hOK i hi).1,by have:=(hOK i hi).2; omega⟩,hLe,by omega,⟨by obtain ⟨x,y,z⟩:=own_len h6r; exact ⟨_,_,_,z⟩,hsl⟩,
    fun b q=>⟨fun r=>own_typ hX6.cr.ev hX6.cr.rf (by decide) (by rw [← r]; exact q),fun r=>own_typ hX6.cr.ev hX6.cr.co (by decide) (by rw [← r]; exact q)⟩,
    fun b q=>by have:=(h6c.own.lt b q).1; have:=hW.size; have h2:=hLt.2.1; have h3:=hLt.2.2.1; exact ⟨by omega,by omega⟩,
    fun i hi b q=>by have:=h6n i hi b q; have:=hW.size; have h2:=hLt.2.1; have h3:=hLt.2.2.1; exact ⟨by omega,by omega⟩⟩
   have h61:∀ u ∈ (⟨gn,ve,vr6,vc6,p4,p5,p6,p7⟩:G8).cells,u.oneCell'=true:=gcells_one ⟨hve,by obtain ⟨x,y,z⟩:=own_len h6r; exact ⟨_,_,_,z⟩,by obtain ⟨x,y,z⟩:=own_len h6c.own; exact ⟨_,_,_,z⟩,hsl⟩
   clear hX h6r h6c h6n
   have hX:=hX6
   clear hX6
   refine wpAny_all (rs:=[4,7]) (by kernel_rfl) (by simp) ?_
   intro i hi
   simp only [List.mem_cons,List.not_mem_nil,or_false] at hi
   rcases hi with rfl | rfl
   ·have d1:=hX.ce.1
    refine wpOp_one (o:=ogM0) (by rfl) rfl ?_
    unfold ogM0
    unfold Oper.wp
    go_simp
    clear d1
    refine wpAny_all (rs:=[7]) (by kernel_rfl) (by simp) ?_
    intro i hi
    simp only [List.mem_singleton] at hi
    subst hi
    have hg7:=hg6.next ((Below.refl W6.heap.size W6).alloc (Nat.le_refl _) (Obj.cells ([.int .i64 gn,ve,vr6,vc6,p4,p5,p6,p7]:List Value).toArray 38 (0,0)))
    have hX7:=hX.next ((Below.refl W6.heap.size W6).alloc (Nat.le_refl _) (Obj.cells ([.int .i64 gn,ve,vr6,vc6,p4,p5,p6,p7]:List Value).toArray 38 (0,0)))
    clear hX
    have hX:=hX7
    clear hX7 hg6
    obtain ⟨⟨sa,sb,sc,sd⟩,⟨s1a,s1b,s1c,s1d⟩,⟨s2a,s2b,s2c,s2d⟩,⟨s3a,s3b,s3c,s3d⟩,⟨s4a,s4b,s4c,s4d⟩,⟨s5a,s5b,s5c,s5d⟩,⟨s6a,s6b,s6c,s6d⟩⟩:Sl ve∧Sl vr6∧Sl vc6∧Sl p4∧Sl p5∧Sl p6∧Sl p7:=⟨hve,hg7.sl.1,(by obtain ⟨x,y,z⟩:=own_len hg7.co.own; exact ⟨_,_,_,z⟩),hg7.sl.2⟩
    subst sd s1d s2d s3d s4d s5d s6d
    refine wpOp_one (o:=ogM3) (by rfl) rfl ?_
    unfold ogM3
    unfold Oper.wp
    go_simp
    refine wpAny_all (rs:=[8]) (by kernel_rfl) (by simp) ?_
    intro i hi
    simp only [List.mem_singleton] at hi
    subst hi
    obtain ⟨v8,W8,hr8,hn8,hg8,hv8⟩:=app_any hX.own (by have:=hW.size; have:=hb6.size; simp; omega) Try.underlying29 infoGr rfl (by omega) (by omega) 29 (some ⟨W6.heap.size,0,none⟩) 1 1 [.int .i64 gn,.slice sa sb sc,.slice s1a s1b s1c,.slice s2a s2b s2c,.slice s3a s3b s3c,.slice s4a s4b s4c,.slice s5a s5b s5c,.slice s6a s6b s6c] rfl (.inr ⟨_,rfl,World.news_of_block (cs:=([.int .i64 gn,.slice sa sb sc,.slice s1a s1b s1c,.slice s2a s2b s2c,.slice s3a s3b s3c,.slice s4a s4b s4c,.slice s5a s5b s5c,.slice s6a s6b s6c]:List Value).toArray) (t:=38) (fr:=(0,0)) (heap_alloc_new W6 _)⟩) h61 (by omega)
    obtain ⟨hE8,k1,k2⟩:=hX.push hg7 hg8 hn8
    obtain ⟨a8,c8,rfl⟩:=own_len hn8
    refine wpOp_one (o:=ogM4) (by rfl) rfl ?_
    unfold ogM4
    refine appOp (Operand.tmp 24) (Operand.tmp 27) 29 rfl (by kernel_rfl) (by kernel_rfl) hr8 ?_
    refine wpAny_all (rs:=[9]) (by kernel_rfl) (by simp) ?_
    intro i hi
    simp only [List.mem_singleton] at hi
    subst hi
    refine wpOp_one (o:=ogM5) (by rfl) rfl ?_
    unfold ogM5
    unfold Oper.wp
    go_simp
    refine wpAny_all (rs:=[10]) (by kernel_rfl) (by simp) ?_
    intro i hi
    simp only [List.mem_singleton] at hi
    subst hi
    refine wpOp_one (o:=ogM6) (by rfl) rfl ?_
    unfold ogM6
    unfold Oper.wp
    go_simp
    refine wpAny_all (rs:=[11]) (by kernel_rfl) (by simp) ?_
    intro i hi
    simp only [List.mem_singleton] at hi
    subst hi
    refine wpOp_one (o:=ogM7) (by rfl) rfl ?_
    unfold ogM7
    unfold Oper.wp
    go_simp
    refine wpAny_done (by kernel_rfl) ?_ _
    refine hQ _ _ _ _ _ _ _ _ _ _ _ _ _ (W8.setCell ⟨eb,0,none⟩ _) hE8 ?_ ?_
    ·exact ((((Fr.of_below hW).trans (Fr.of_below hb6)).trans (Fr.of_below ((Below.refl W6.heap.size W6).alloc (Nat.le_refl _) _))).trans (Fr.of_grown hg8 (fun b q=>.inr (.inr (.inr q))))).trans (Fr.set W8 eb 0 _ (.inl rfl))
    ·rcases hv8 with q | q
     ·exact .inl q
     ·exact .inr ⟨_,q,by have:=hW.size; have:=hb6.size; simp; omega⟩
   ·have hg7:=hg6.next ((Below.refl W6.heap.size W6).alloc (Nat.le_refl _) (Obj.cells ([.int .i64 gn,ve,vr6,vc6,p4,p5,p6,p7]:List Value).toArray 38 (0,0)))
    have hX7:=hX.next ((Below.refl W6.heap.size W6).alloc (Nat.le_refl _) (Obj.cells ([.int .i64 gn,ve,vr6,vc6,p4,p5,p6,p7]:List Value).toArray 38 (0,0)))
    clear hX
    have hX:=hX7
    clear hX7 hg6
    obtain ⟨⟨sa,sb,sc,sd⟩,⟨s1a,s1b,s1c,s1d⟩,⟨s2a,s2b,s2c,s2d⟩,⟨s3a,s3b,s3c,s3d⟩,⟨s4a,s4b,s4c,s4d⟩,⟨s5a,s5b,s5c,s5d⟩,⟨s6a,s6b,s6c,s6d⟩⟩:Sl ve∧Sl vr6∧Sl vc6∧Sl p4∧Sl p5∧Sl p6∧Sl p7:=⟨hve,hg7.sl.1,(by obtain ⟨x,y,z⟩:=own_len hg7.co.own; exact ⟨_,_,_,z⟩),hg7.sl.2⟩
    subst sd s1d s2d s3d s4d s5d s6d
    refine wpOp_one (o:=ogM3) (by rfl) rfl ?_
    unfold ogM3
    unfold Oper.wp
    go_simp
    refine wpAny_all (rs:=[4]) (by kernel_rfl) (by simp) ?_
    intro i hi
    simp only [List.mem_singleton] at hi
    subst hi
    have d1:=hX.ce.1
    refine wpOp_one (o:=ogM0) (by rfl) rfl ?_
    unfold ogM0
    unfold Oper.wp
    go_simp
    clear d1
    refine wpAny_all (rs:=[8]) (by kernel_rfl) (by simp) ?_
    intro i hi
    simp only [List.mem_singleton] at hi
    subst hi
    obtain ⟨v8,W8,hr8,hn8,hg8,hv8⟩:=app_any hX.own (by have:=hW.size; have:=hb6.size; simp; omega) Try.underlying29 infoGr rfl (by omega) (by omega) 29 (some ⟨W6.heap.size,0,none⟩) 1 1 [.int .i64 gn,.slice sa sb sc,.slice s1a s1b s1c,.slice s2a s2b s2c,.slice s3a s3b s3c,.slice s4a s4b s4c,.slice s5a s5b s5c,.slice s6a s6b s6c] rfl (.inr ⟨_,rfl,World.news_of_block (cs:=([.int .i64 gn,.slice sa sb sc,.slice s1a s1b s1c,.slice s2a s2b s2c,.slice s3a s3b s3c,.slice s4a s4b s4c,.slice s5a s5b s5c,.slice s6a s6b s6c]:List Value).toArray) (t:=38) (fr:=(0,0)) (heap_alloc_new W6 _)⟩) h61 (by omega)
    obtain ⟨hE8,k1,k2⟩:=hX.push hg7 hg8 hn8
    obtain ⟨a8,c8,rfl⟩:=own_len hn8
    refine wpOp_one (o:=ogM4) (by rfl) rfl ?_
    unfold ogM4
    refine appOp (Operand.tmp 24) (Operand.tmp 27) 29 rfl (by kernel_rfl) (by kernel_rfl) hr8 ?_
    refine wpAny_all (rs:=[9]) (by kernel_rfl) (by simp) ?_
    intro i hi
    simp only [List.mem_singleton] at hi
    subst hi
    refine wpOp_one (o:=ogM5) (by rfl) rfl ?_
    unfold ogM5
    unfold Oper.wp
    go_simp
    refine wpAny_all (rs:=[10]) (by kernel_rfl) (by simp) ?_
    intro i hi
    simp only [List.mem_singleton] at hi
    subst hi
    refine wpOp_one (o:=ogM6) (by rfl) rfl ?_
    unfold ogM6
    unfold Oper.wp
    go_simp
    refine wpAny_all (rs:=[11]) (by kernel_rfl) (by simp) ?_
    intro i hi
    simp only [List.mem_singleton] at hi
    subst hi
    refine wpOp_one (o:=ogM7) (by rfl) rfl ?_
    unfold ogM7
    unfold Oper.wp
    go_simp
    refine wpAny_done (by kernel_rfl) ?_ _
    refine hQ _ _ _ _ _ _ _ _ _ _ _ _ _ (W8.setCell ⟨eb,0,none⟩ _) hE8 ?_ ?_
    ·exact ((((Fr.of_below hW).trans (Fr.of_below hb6)).trans (Fr.of_below ((Below.refl W6.heap.size W6).alloc (Nat.le_refl _) _))).trans (Fr.of_grown hg8 (fun b q=>.inr (.inr (.inr q))))).trans (Fr.set W8 eb 0 _ (.inl rfl))
    ·rcases hv8 with q | q
     ·exact .inl q
     ·exact .inr ⟨_,q,by have:=hW.size; have:=hb6.size; simp; omega⟩
set_option maxRecDepth 20000 in
set_option maxHeartbeats 8000000 in
theorem coreg18_l (w0 w:World) (eb rb cb pb loc x wc:Nat) (wa:Option Addr) (was:List Int) (vL:Value) (G:List G8) (big:Bool) (g:G8) (E:List Ev) (R:List Int) (C:List (List Int)) (cvs:List Value) (hS:CS w0 w eb rb cb vL G big g E R C cvs) (hk:loc < C.length) (hp:w.cell? ⟨pb,3,none⟩=some (.slice (some ⟨cb,0,none⟩) C.length C.length)) (hwas:LV w (.slice wa was.length wc) was) (hwl:was.length≤900) (hok:CoOk E.length (was ++ [(x:Int)])∧(was ++ [(x:Int)]).length + miss (was ++ [(x:Int)]) E.length≤E.length)
  (z0 z1 z3 z5 z6 z9 z10 z11 z12 z13 z14 z15 z16 z17 z18 z19 z20 z21 z22 z23 z24 z25 z26 z27 z28 z29 z30 z31 z32 z33 z34 z35 z36 z37 z38 z39 z40 z41 z42 z43 z44 z45 z46 z47 z48 z49 z50 z51 z52 z53 z54 z55 z56 z57 z58 z59 z60 z61 z62 z63 z64 z65 z66 z67 z68 z69 z70 z71 z72 z73 z74 z75 z76 z77 z78 z79 z80 z81 z82 z83 z84 z85 z86 z87 z88 z89 z90 z91 z92 z93 z94 z95 z96 z97 z98 z99 z100 z101 z102 z103 z104 z105 z106 z107 z108 z109:Value) (Q:Exit→Act→World→Prop)
  (hQp:∀ c (a:Act) (d:Tmp) v w,Q (.panic c) (a.put (some d) v) w→Q (.panic c) a w)
  (hQ:∀ (y85 y86 y87 y88 y89 y90 y91 y92 y93:Value) (cvs':List Value) (W:World),CS w0 W eb rb cb vL G big g E R (C.set loc (was ++ [(x:Int)])) cvs'→Fr (XE eb rb cb vL) w W→Q .normal { tmps:=(z0::z1::.int .i64 (loc:Int)::z3::.pointer (some ⟨pb,0,none⟩)::z5::z6::.slice wa was.length wc::.int .i64 (x:Int)::z9::z10::z11::z12::z13::z14::z15::z16::z17::z18::z19::z20::z21::z22::z23::z24::z25::z26::z27::z28::z29::z30::z31::z32::z33::z34::z35::z36::z37::z38::z39::z40::z41::z42::z43::z44::z45::z46::z47::z48::z49::z50::z51::z52::z53::z54::z55::z56::z57::z58::z59::z60::z61::z62::z63::z64::z65::z66::z67::z68::z69::z70::z71::z72::z73::z74::z75::z76::z77::z78::z79::z80::z81::z82::z83::z84::y85::y86::y87::y88::y89::y90::y91::y92::y93::z94::z95::z96::z97::z98::z99::z100::z101::z102::z103::z104::z105::z106::z107::z108::z109::[]).toArray,defers:=[] } W) :
  Code.wp Try.prog (Code.region 18 rgM1 true) Q { tmps:=(z0::z1::.int .i64 (loc:Int)::z3::.pointer (some ⟨pb,0,none⟩)::z5::z6::.slice wa was.length wc::.int .i64 (x:Int)::z9::z10::z11::z12::z13::z14::z15::z16::z17::z18::z19::z20::z21::z22::z23::z24::z25::z26::z27::z28::z29::z30::z31::z32::z33::z34::z35::z36::z37::z38::z39::z40::z41::z42::z43::z44::z45::z46::z47::z48::z49::z50::z51::z52::z53::z54::z55::z56::z57::z58::z59::z60::z61::z62::z63::z64::z65::z66::z67::z68::z69::z70::z71::z72::z73::z74::z75::z76::z77::z78::z79::z80::z81::z82::z83::z84::z85::z86::z87::z88::z89::z90::z91::z92::z93::z94::z95::z96::z97::z98::z99::z100::z101::z102::z103::z104::z105::z106::z107::z108::z109::[]).toArray,defers:=[] } w:=by
 unfold rgM1
 refine wp_region_any (by kernel_rfl) ?_
 have hB:MI w (World.drew w) 3 1 (.slice none 0 0) 0 [] []:=(MI.nil w _ _).drew
 have hki:(loc:Int) < (C.length:Int):=by omega
 have hnw:was.length=0 ∨ ∃ ad,wa=some ad∧∀ W,Below w.heap.size w W→∀ j u,(nints was)[j]?=some u→W.cell? (ad.add j)=some u:=by
  rcases hwas.form with ⟨_,q⟩ | ⟨g,c',q,_,_,_,hcc⟩
  ·exact .inl (by rw [q]; rfl)
  ·simp only [Value.slice.injEq] at q
   exact .inr ⟨⟨g,0,none⟩,q.1,fun W hb=>news_cells (fun i hi=>by rw [Nat.zero_add]; exact cell_next (hcc i hi) hb)⟩
 clear hwas
 have HS:=Lib.hid hS
 clear hS
 change wpAny _ _ _ _ _ _ _ (World.drew _)
 generalize World.drew w=W at hB ⊢
 refine wpAny_take (i:=0) (v:=.pointer (some ⟨pb,3,none⟩)) rfl (by kernel_rfl) (by kernel_rfl) (by kernel_rfl) (fun c a w=>hQp c a _ _ w) (Or.inl ⟨by rfl,?_⟩) ?_
 ·intro w
  go_simp
 refine wpAny_take (i:=2) (v:=.int .i64 (loc:Int)) rfl (by kernel_rfl) (by kernel_rfl) (by kernel_rfl) (fun c a w=>hQp c a _ _ w) (Or.inl ⟨by rfl,?_⟩) ?_
 ·intro w
  go_simp
 refine wpAny_take (i:=3) (v:=.slice wa was.length wc) rfl (by kernel_rfl) (by kernel_rfl) (by kernel_rfl) (fun c a w=>hQp c a _ _ w) (Or.inl ⟨by rfl,?_⟩) ?_
 ·intro w
  go_simp
 refine wpAny_take (i:=5) (v:=.int .i64 (x:Int)) rfl (by kernel_rfl) (by kernel_rfl) (by kernel_rfl) (fun c a w=>hQp c a _ _ w) (Or.inl ⟨by rfl,?_⟩) ?_
 ·intro w
  go_simp
 show wpAny _ _ _ _ 6 _ _ _
 refine wpAny_all (rs:=[1,4,6]) (by kernel_rfl) (by simp) ?_
 intro i hi
 simp only [List.mem_cons,List.not_mem_nil,or_false] at hi
 rcases hi with rfl | rfl | rfl
 ·have cx:=cell_next hp hB.bel
  refine wpOp_one (o:=ogM8) (by rfl) rfl ?_
  unfold ogM8
  unfold Oper.wp
  go_simp
  clear cx
  refine wpAny_all (rs:=[4,6]) (by kernel_rfl) (by simp) ?_
  intro i hi
  simp only [List.mem_cons,List.not_mem_nil,or_false] at hi
  rcases hi with rfl | rfl
  ·obtain ⟨v6,W3,hr3,hB3⟩:=hB.app (t:=22) (e0:=3) (z:=.int .i64 0) (bytes:=8) Try.underlying22 infoInt rfl (by omega) (by omega) 22 wa was.length wc (nints was) (by simp [nints]) (by rcases hnw with q | ⟨ad,q,r⟩; exact .inl q; exact .inr ⟨ad,q,r _ hB.bel⟩) (nints_one _) (by omega)
   rw [Nat.zero_add,List.nil_append] at hB3
   clear hB
   have hB:=hB3
   clear hB3
   refine wpOp_one (o:=ogM9) (by rfl) rfl ?_
   unfold ogM9
   refine appOp (Operand.const (Value.slice none 0 0)) (Operand.tmp 88) 22 rfl (by kernel_rfl) (by kernel_rfl) hr3 ?_
   refine wpAny_all (rs:=[6]) (by kernel_rfl) (by simp) ?_
   intro i hi
   simp only [List.mem_singleton] at hi
   subst hi
   have hB5:=hB.alloc (Obj.cells ([.int .i64 (x:Int)]:List Value).toArray 3 (0,0))
   obtain ⟨B8,hB8⟩:∃ q,q=W3.heap.size:=⟨_,rfl⟩
   clear hB
   have hB:=hB5
   clear hB5
   refine wpOp_one (o:=ogM10) (by rfl) rfl ?_
   unfold ogM10
   unfold Oper.wp
   go_simp
   refine wpAny_all (rs:=[7]) (by kernel_rfl) (by simp) ?_
   intro i hi
   simp only [List.mem_singleton] at hi
   subst hi
   obtain ⟨v9,W9,hr9,hB9⟩:=hB.app (t:=22) (e0:=3) (z:=.int .i64 0) (bytes:=8) Try.underlying22 infoInt rfl (by omega) (by omega) 22 (some ⟨B8,0,none⟩) 1 1 [.int .i64 (x:Int)] rfl (.inr ⟨_,rfl,by rw [hB8]; exact into_src hB (by first | exact List.mem_cons_self .. | exact List.mem_cons_of_mem _ (List.mem_cons_self ..))⟩) (by intro u hu; simp at hu; subst hu; rfl) (by omega)
   clear hB
   have hB:=hB9
   clear hB9
   refine wpOp_one (o:=ogM11) (by rfl) rfl ?_
   unfold ogM11
   refine appOp (Operand.tmp 89) (Operand.tmp 91) 22 rfl (by kernel_rfl) (by rw [hB8]; kernel_rfl) hr9 ?_
   refine wpAny_all (rs:=[8]) (by kernel_rfl) (by simp) ?_
   intro i hi
   simp only [List.mem_singleton] at hi
   subst hi
   refine wpOp_one (o:=ogM12) (by rfl) rfl ?_
   unfold ogM12
   unfold Oper.wp
   go_simp
   refine wpAny_all (rs:=[9]) (by kernel_rfl) (by simp) ?_
   intro i hi
   simp only [List.mem_singleton] at hi
   subst hi
   have hS9:=HS.out.next hB.bel
   obtain ⟨d1,d2⟩:=hS9.cr.cell hk
   have hl9:LV W9 v9 (was ++ [(x:Int)]):=LV.of_own (by rw [nints_app]; exact hB.own) (by simp)
   have hf9:∀ b,v9.ownBlock=some b→b ≠ rb:=fun b q=>by have:=(hB.own.lt b q).1; have:=HS.out.lt.2.1; omega
   have hE9:=hS9.setC hk hl9 hf9 hok
   obtain ⟨a9,c9,rfl⟩:=own_len hB.own
   refine wpOp_one (o:=ogM13) (by rfl) rfl ?_
   unfold ogM13
   unfold Oper.wp
   go_simp
   refine wpAny_done (by kernel_rfl) ?_ _
   exact hQ _ _ _ _ _ _ _ _ _ _ (W9.setCell ⟨cb,loc,none⟩ _) hE9 ((Fr.of_below hB.bel).trans (Fr.set W9 cb loc _ (.inr (.inr (.inl rfl)))))
  ·have hB5:=hB.alloc (Obj.cells ([.int .i64 (x:Int)]:List Value).toArray 3 (0,0))
   obtain ⟨B8,hB8⟩:∃ q,q=W.heap.size:=⟨_,rfl⟩
   clear hB
   have hB:=hB5
   clear hB5
   refine wpOp_one (o:=ogM10) (by rfl) rfl ?_
   unfold ogM10
   unfold Oper.wp
   go_simp
   refine wpAny_all (rs:=[4]) (by kernel_rfl) (by simp) ?_
   intro i hi
   simp only [List.mem_singleton] at hi
   subst hi
   obtain ⟨v6,W3,hr3,hB3⟩:=hB.app (t:=22) (e0:=3) (z:=.int .i64 0) (bytes:=8) Try.underlying22 infoInt rfl (by omega) (by omega) 22 wa was.length wc (nints was) (by simp [nints]) (by rcases hnw with q | ⟨ad,q,r⟩; exact .inl q; exact .inr ⟨ad,q,r _ hB.bel⟩) (nints_one _) (by omega)
   rw [Nat.zero_add,List.nil_append] at hB3
   clear hB
   have hB:=hB3
   clear hB3
   refine wpOp_one (o:=ogM9) (by rfl) rfl ?_
   unfold ogM9
   refine appOp (Operand.const (Value.slice none 0 0)) (Operand.tmp 88) 22 rfl (by kernel_rfl) (by kernel_rfl) hr3 ?_
   refine wpAny_all (rs:=[7]) (by kernel_rfl) (by simp) ?_
   intro i hi
   simp only [List.mem_singleton] at hi
   subst hi
   obtain ⟨v9,W9,hr9,hB9⟩:=hB.app (t:=22) (e0:=3) (z:=.int .i64 0) (bytes:=8) Try.underlying22 infoInt rfl (by omega) (by omega) 22 (some ⟨B8,0,none⟩) 1 1 [.int .i64 (x:Int)] rfl (.inr ⟨_,rfl,by rw [hB8]; exact into_src hB (by first | exact List.mem_cons_self .. | exact List.mem_cons_of_mem _ (List.mem_cons_self ..))⟩) (by intro u hu; simp at hu; subst hu; rfl) (by omega)
   clear hB
   have hB:=hB9
   clear hB9
   refine wpOp_one (o:=ogM11) (by rfl) rfl ?_
   unfold ogM11
   refine appOp (Operand.tmp 89) (Operand.tmp 91) 22 rfl (by kernel_rfl) (by rw [hB8]; kernel_rfl) hr9 ?_
   refine wpAny_all (rs:=[8]) (by kernel_rfl) (by simp) ?_
   intro i hi
   simp only [List.mem_singleton] at hi
   subst hi
   refine wpOp_one (o:=ogM12) (by rfl) rfl ?_
   unfold ogM12
   unfold Oper.wp
   go_simp
   refine wpAny_all (rs:=[9]) (by kernel_rfl) (by simp) ?_
   intro i hi
   simp only [List.mem_singleton] at hi
   subst hi
   have hS9:=HS.out.next hB.bel
   obtain ⟨d1,d2⟩:=hS9.cr.cell hk
   have hl9:LV W9 v9 (was ++ [(x:Int)]):=LV.of_own (by rw [nints_app]; exact hB.own) (by simp)
   have hf9:∀ b,v9.ownBlock=some b→b ≠ rb:=fun b q=>by have:=(hB.own.lt b q).1; have:=HS.out.lt.2.1; omega
   have hE9:=hS9.setC hk hl9 hf9 hok
   obtain ⟨a9,c9,rfl⟩:=own_len hB.own
   refine wpOp_one (o:=ogM13) (by rfl) rfl ?_
   unfold ogM13
   unfold Oper.wp
   go_simp
   refine wpAny_done (by kernel_rfl) ?_ _
   exact hQ _ _ _ _ _ _ _ _ _ _ (W9.setCell ⟨cb,loc,none⟩ _) hE9 ((Fr.of_below hB.bel).trans (Fr.set W9 cb loc _ (.inr (.inr (.inl rfl)))))
 ·obtain ⟨v6,W3,hr3,hB3⟩:=hB.app (t:=22) (e0:=3) (z:=.int .i64 0) (bytes:=8) Try.underlying22 infoInt rfl (by omega) (by omega) 22 wa was.length wc (nints was) (by simp [nints]) (by rcases hnw with q | ⟨ad,q,r⟩; exact .inl q; exact .inr ⟨ad,q,r _ hB.bel⟩) (nints_one _) (by omega)
  rw [Nat.zero_add,List.nil_append] at hB3
  clear hB
  have hB:=hB3
  clear hB3
  refine wpOp_one (o:=ogM9) (by rfl) rfl ?_
  unfold ogM9
  refine appOp (Operand.const (Value.slice none 0 0)) (Operand.tmp 88) 22 rfl (by kernel_rfl) (by kernel_rfl) hr3 ?_
  refine wpAny_all (rs:=[1,6]) (by kernel_rfl) (by simp) ?_
  intro i hi
  simp only [List.mem_cons,List.not_mem_nil,or_false] at hi
  rcases hi with rfl | rfl
  ·have cx:=cell_next hp hB.bel
   refine wpOp_one (o:=ogM8) (by rfl) rfl ?_
   unfold ogM8
   unfold Oper.wp
   go_simp
   clear cx
   refine wpAny_all (rs:=[6]) (by kernel_rfl) (by simp) ?_
   intro i hi
   simp only [List.mem_singleton] at hi
   subst hi
   have hB5:=hB.alloc (Obj.cells ([.int .i64 (x:Int)]:List Value).toArray 3 (0,0))
   obtain ⟨B8,hB8⟩:∃ q,q=W3.heap.size:=⟨_,rfl⟩
   clear hB
   have hB:=hB5
   clear hB5
   refine wpOp_one (o:=ogM10) (by rfl) rfl ?_
   unfold ogM10
   unfold Oper.wp
   go_simp
   refine wpAny_all (rs:=[7]) (by kernel_rfl) (by simp) ?_
   intro i hi
   simp only [List.mem_singleton] at hi
   subst hi
   obtain ⟨v9,W9,hr9,hB9⟩:=hB.app (t:=22) (e0:=3) (z:=.int .i64 0) (bytes:=8) Try.underlying22 infoInt rfl (by omega) (by omega) 22 (some ⟨B8,0,none⟩) 1 1 [.int .i64 (x:Int)] rfl (.inr ⟨_,rfl,by rw [hB8]; exact into_src hB (by first | exact List.mem_cons_self .. | exact List.mem_cons_of_mem _ (List.mem_cons_self ..))⟩) (by intro u hu; simp at hu; subst hu; rfl) (by omega)
   clear hB
   have hB:=hB9
   clear hB9
   refine wpOp_one (o:=ogM11) (by rfl) rfl ?_
   unfold ogM11
   refine appOp (Operand.tmp 89) (Operand.tmp 91) 22 rfl (by kernel_rfl) (by rw [hB8]; kernel_rfl) hr9 ?_
   refine wpAny_all (rs:=[8]) (by kernel_rfl) (by simp) ?_
   intro i hi
   simp only [List.mem_singleton] at hi
   subst hi
   refine wpOp_one (o:=ogM12) (by rfl) rfl ?_
   unfold ogM12
   unfold Oper.wp
   go_simp
   refine wpAny_all (rs:=[9]) (by kernel_rfl) (by simp) ?_
   intro i hi
   simp only [List.mem_singleton] at hi
   subst hi
   have hS9:=HS.out.next hB.bel
   obtain ⟨d1,d2⟩:=hS9.cr.cell hk
   have hl9:LV W9 v9 (was ++ [(x:Int)]):=LV.of_own (by rw [nints_app]; exact hB.own) (by simp)
   have hf9:∀ b,v9.ownBlock=some b→b ≠ rb:=fun b q=>by have:=(hB.own.lt b q).1; have:=HS.out.lt.2.1; omega
   have hE9:=hS9.setC hk hl9 hf9 hok
   obtain ⟨a9,c9,rfl⟩:=own_len hB.own
   refine wpOp_one (o:=ogM13) (by rfl) rfl ?_
   unfold ogM13
   unfold Oper.wp
   go_simp
   refine wpAny_done (by kernel_rfl) ?_ _
   exact hQ _ _ _ _ _ _ _ _ _ _ (W9.setCell ⟨cb,loc,none⟩ _) hE9 ((Fr.of_below hB.bel).trans (Fr.set W9 cb loc _ (.inr (.inr (.inl rfl)))))
  ·have hB5:=hB.alloc (Obj.cells ([.int .i64 (x:Int)]:List Value).toArray 3 (0,0))
   obtain ⟨B8,hB8⟩:∃ q,q=W3.heap.size:=⟨_,rfl⟩
   clear hB
   have hB:=hB5
   clear hB5
   refine wpOp_one (o:=ogM10) (by rfl) rfl ?_
   unfold ogM10
   unfold Oper.wp
   go_simp
   refine wpAny_all (rs:=[1,7]) (by kernel_rfl) (by simp) ?_
   intro i hi
   simp only [List.mem_cons,List.not_mem_nil,or_false] at hi
   rcases hi with rfl | rfl
   ·have cx:=cell_next hp hB.bel
    refine wpOp_one (o:=ogM8) (by rfl) rfl ?_
    unfold ogM8
    unfold Oper.wp
    go_simp
    clear cx
    refine wpAny_all (rs:=[7]) (by kernel_rfl) (by simp) ?_
    intro i hi
    simp only [List.mem_singleton] at hi
    subst hi
    obtain ⟨v9,W9,hr9,hB9⟩:=hB.app (t:=22) (e0:=3) (z:=.int .i64 0) (bytes:=8) Try.underlying22 infoInt rfl (by omega) (by omega) 22 (some ⟨B8,0,none⟩) 1 1 [.int .i64 (x:Int)] rfl (.inr ⟨_,rfl,by rw [hB8]; exact into_src hB (by first | exact List.mem_cons_self .. | exact List.mem_cons_of_mem _ (List.mem_cons_self ..))⟩) (by intro u hu; simp at hu; subst hu; rfl) (by omega)
    clear hB
    have hB:=hB9
    clear hB9
    refine wpOp_one (o:=ogM11) (by rfl) rfl ?_
    unfold ogM11
    refine appOp (Operand.tmp 89) (Operand.tmp 91) 22 rfl (by kernel_rfl) (by rw [hB8]; kernel_rfl) hr9 ?_
    refine wpAny_all (rs:=[8]) (by kernel_rfl) (by simp) ?_
    intro i hi
    simp only [List.mem_singleton] at hi
    subst hi
    refine wpOp_one (o:=ogM12) (by rfl) rfl ?_
    unfold ogM12
    unfold Oper.wp
    go_simp
    refine wpAny_all (rs:=[9]) (by kernel_rfl) (by simp) ?_
    intro i hi
    simp only [List.mem_singleton] at hi
    subst hi
    have hS9:=HS.out.next hB.bel
    obtain ⟨d1,d2⟩:=hS9.cr.cell hk
    have hl9:LV W9 v9 (was ++ [(x:Int)]):=LV.of_own (by rw [nints_app]; exact hB.own) (by simp)
    have hf9:∀ b,v9.ownBlock=some b→b ≠ rb:=fun b q=>by have:=(hB.own.lt b q).1; have:=HS.out.lt.2.1; omega
    have hE9:=hS9.setC hk hl9 hf9 hok
    obtain ⟨a9,c9,rfl⟩:=own_len hB.own
    refine wpOp_one (o:=ogM13) (by rfl) rfl ?_
    unfold ogM13
    unfold Oper.wp
    go_simp
    refine wpAny_done (by kernel_rfl) ?_ _
    exact hQ _ _ _ _ _ _ _ _ _ _ (W9.setCell ⟨cb,loc,none⟩ _) hE9 ((Fr.of_below hB.bel).trans (Fr.set W9 cb loc _ (.inr (.inr (.inl rfl)))))
   ·obtain ⟨v9,W9,hr9,hB9⟩:=hB.app (t:=22) (e0:=3) (z:=.int .i64 0) (bytes:=8) Try.underlying22 infoInt rfl (by omega) (by omega) 22 (some ⟨B8,0,none⟩) 1 1 [.int .i64 (x:Int)] rfl (.inr ⟨_,rfl,by rw [hB8]; exact into_src hB (by first | exact List.mem_cons_self .. | exact List.mem_cons_of_mem _ (List.mem_cons_self ..))⟩) (by intro u hu; simp at hu; subst hu; rfl) (by omega)
    clear hB
    have hB:=hB9
    clear hB9
    refine wpOp_one (o:=ogM11) (by rfl) rfl ?_
    unfold ogM11
    refine appOp (Operand.tmp 89) (Operand.tmp 91) 22 rfl (by kernel_rfl) (by rw [hB8]; kernel_rfl) hr9 ?_
    refine wpAny_all (rs:=[1]) (by kernel_rfl) (by simp) ?_
    intro i hi
    simp only [List.mem_singleton] at hi
    subst hi
    have cx:=cell_next hp hB.bel
    refine wpOp_one (o:=ogM8) (by rfl) rfl ?_
    unfold ogM8
    unfold Oper.wp
    go_simp
    clear cx
    refine wpAny_all (rs:=[8]) (by kernel_rfl) (by simp) ?_
    intro i hi
    simp only [List.mem_singleton] at hi
    subst hi
    refine wpOp_one (o:=ogM12) (by rfl) rfl ?_
    unfold ogM12
    unfold Oper.wp
    go_simp
    refine wpAny_all (rs:=[9]) (by kernel_rfl) (by simp) ?_
    intro i hi
    simp only [List.mem_singleton] at hi
    subst hi
    have hS9:=HS.out.next hB.bel
    obtain ⟨d1,d2⟩:=hS9.cr.cell hk
    have hl9:LV W9 v9 (was ++ [(x:Int)]):=LV.of_own (by rw [nints_app]; exact hB.own) (by simp)
    have hf9:∀ b,v9.ownBlock=some b→b ≠ rb:=fun b q=>by have:=(hB.own.lt b q).1; have:=HS.out.lt.2.1; omega
    have hE9:=hS9.setC hk hl9 hf9 hok
    obtain ⟨a9,c9,rfl⟩:=own_len hB.own
    refine wpOp_one (o:=ogM13) (by rfl) rfl ?_
    unfold ogM13
    unfold Oper.wp
    go_simp
    refine wpAny_done (by kernel_rfl) ?_ _
    exact hQ _ _ _ _ _ _ _ _ _ _ (W9.setCell ⟨cb,loc,none⟩ _) hE9 ((Fr.of_below hB.bel).trans (Fr.set W9 cb loc _ (.inr (.inr (.inl rfl)))))
 ·have hB5:=hB.alloc (Obj.cells ([.int .i64 (x:Int)]:List Value).toArray 3 (0,0))
  obtain ⟨B8,hB8⟩:∃ q,q=W.heap.size:=⟨_,rfl⟩
  clear hB
  have hB:=hB5
  clear hB5
  refine wpOp_one (o:=ogM10) (by rfl) rfl ?_
  unfold ogM10
  unfold Oper.wp
  go_simp
  refine wpAny_all (rs:=[1,4]) (by kernel_rfl) (by simp) ?_
  intro i hi
  simp only [List.mem_cons,List.not_mem_nil,or_false] at hi
  rcases hi with rfl | rfl
  ·have cx:=cell_next hp hB.bel
   refine wpOp_one (o:=ogM8) (by rfl) rfl ?_
   unfold ogM8
   unfold Oper.wp
   go_simp
   clear cx
   refine wpAny_all (rs:=[4]) (by kernel_rfl) (by simp) ?_
   intro i hi
   simp only [List.mem_singleton] at hi
   subst hi
   obtain ⟨v6,W3,hr3,hB3⟩:=hB.app (t:=22) (e0:=3) (z:=.int .i64 0) (bytes:=8) Try.underlying22 infoInt rfl (by omega) (by omega) 22 wa was.length wc (nints was) (by simp [nints]) (by rcases hnw with q | ⟨ad,q,r⟩; exact .inl q; exact .inr ⟨ad,q,r _ hB.bel⟩) (nints_one _) (by omega)
   rw [Nat.zero_add,List.nil_append] at hB3
   clear hB
   have hB:=hB3
   clear hB3
   refine wpOp_one (o:=ogM9) (by rfl) rfl ?_
   unfold ogM9
   refine appOp (Operand.const (Value.slice none 0 0)) (Operand.tmp 88) 22 rfl (by kernel_rfl) (by kernel_rfl) hr3 ?_
   refine wpAny_all (rs:=[7]) (by kernel_rfl) (by simp) ?_
   intro i hi
   simp only [List.mem_singleton] at hi
   subst hi
   obtain ⟨v9,W9,hr9,hB9⟩:=hB.app (t:=22) (e0:=3) (z:=.int .i64 0) (bytes:=8) Try.underlying22 infoInt rfl (by omega) (by omega) 22 (some ⟨B8,0,none⟩) 1 1 [.int .i64 (x:Int)] rfl (.inr ⟨_,rfl,by rw [hB8]; exact into_src hB (by first | exact List.mem_cons_self .. | exact List.mem_cons_of_mem _ (List.mem_cons_self ..))⟩) (by intro u hu; simp at hu; subst hu; rfl) (by omega)
   clear hB
   have hB:=hB9
   clear hB9
   refine wpOp_one (o:=ogM11) (by rfl) rfl ?_
   unfold ogM11
   refine appOp (Operand.tmp 89) (Operand.tmp 91) 22 rfl (by kernel_rfl) (by rw [hB8]; kernel_rfl) hr9 ?_
   refine wpAny_all (rs:=[8]) (by kernel_rfl) (by simp) ?_
   intro i hi
   simp only [List.mem_singleton] at hi
   subst hi
   refine wpOp_one (o:=ogM12) (by rfl) rfl ?_
   unfold ogM12
   unfold Oper.wp
   go_simp
   refine wpAny_all (rs:=[9]) (by kernel_rfl) (by simp) ?_
   intro i hi
   simp only [List.mem_singleton] at hi
   subst hi
   have hS9:=HS.out.next hB.bel
   obtain ⟨d1,d2⟩:=hS9.cr.cell hk
   have hl9:LV W9 v9 (was ++ [(x:Int)]):=LV.of_own (by rw [nints_app]; exact hB.own) (by simp)
   have hf9:∀ b,v9.ownBlock=some b→b ≠ rb:=fun b q=>by have:=(hB.own.lt b q).1; have:=HS.out.lt.2.1; omega
   have hE9:=hS9.setC hk hl9 hf9 hok
   obtain ⟨a9,c9,rfl⟩:=own_len hB.own
   refine wpOp_one (o:=ogM13) (by rfl) rfl ?_
   unfold ogM13
   unfold Oper.wp
   go_simp
   refine wpAny_done (by kernel_rfl) ?_ _
   exact hQ _ _ _ _ _ _ _ _ _ _ (W9.setCell ⟨cb,loc,none⟩ _) hE9 ((Fr.of_below hB.bel).trans (Fr.set W9 cb loc _ (.inr (.inr (.inl rfl)))))
  ·obtain ⟨v6,W3,hr3,hB3⟩:=hB.app (t:=22) (e0:=3) (z:=.int .i64 0) (bytes:=8) Try.underlying22 infoInt rfl (by omega) (by omega) 22 wa was.length wc (nints was) (by simp [nints]) (by rcases hnw with q | ⟨ad,q,r⟩; exact .inl q; exact .inr ⟨ad,q,r _ hB.bel⟩) (nints_one _) (by omega)
   rw [Nat.zero_add,List.nil_append] at hB3
   clear hB
   have hB:=hB3
   clear hB3
   refine wpOp_one (o:=ogM9) (by rfl) rfl ?_
   unfold ogM9
   refine appOp (Operand.const (Value.slice none 0 0)) (Operand.tmp 88) 22 rfl (by kernel_rfl) (by kernel_rfl) hr3 ?_
   refine wpAny_all (rs:=[1,7]) (by kernel_rfl) (by simp) ?_
   intro i hi
   simp only [List.mem_cons,List.not_mem_nil,or_false] at hi
   rcases hi with rfl | rfl
   ·have cx:=cell_next hp hB.bel
    refine wpOp_one (o:=ogM8) (by rfl) rfl ?_
    unfold ogM8
    unfold Oper.wp
    go_simp
    clear cx
    refine wpAny_all (rs:=[7]) (by kernel_rfl) (by simp) ?_
    intro i hi
    simp only [List.mem_singleton] at hi
    subst hi
    obtain ⟨v9,W9,hr9,hB9⟩:=hB.app (t:=22) (e0:=3) (z:=.int .i64 0) (bytes:=8) Try.underlying22 infoInt rfl (by omega) (by omega) 22 (some ⟨B8,0,none⟩) 1 1 [.int .i64 (x:Int)] rfl (.inr ⟨_,rfl,by rw [hB8]; exact into_src hB (by first | exact List.mem_cons_self .. | exact List.mem_cons_of_mem _ (List.mem_cons_self ..))⟩) (by intro u hu; simp at hu; subst hu; rfl) (by omega)
    clear hB
    have hB:=hB9
    clear hB9
    refine wpOp_one (o:=ogM11) (by rfl) rfl ?_
    unfold ogM11
    refine appOp (Operand.tmp 89) (Operand.tmp 91) 22 rfl (by kernel_rfl) (by rw [hB8]; kernel_rfl) hr9 ?_
    refine wpAny_all (rs:=[8]) (by kernel_rfl) (by simp) ?_
    intro i hi
    simp only [List.mem_singleton] at hi
    subst hi
    refine wpOp_one (o:=ogM12) (by rfl) rfl ?_
    unfold ogM12
    unfold Oper.wp
    go_simp
    refine wpAny_all (rs:=[9]) (by kernel_rfl) (by simp) ?_
    intro i hi
    simp only [List.mem_singleton] at hi
    subst hi
    have hS9:=HS.out.next hB.bel
    obtain ⟨d1,d2⟩:=hS9.cr.cell hk
    have hl9:LV W9 v9 (was ++ [(x:Int)]):=LV.of_own (by rw [nints_app]; exact hB.own) (by simp)
    have hf9:∀ b,v9.ownBlock=some b→b ≠ rb:=fun b q=>by have:=(hB.own.lt b q).1; have:=HS.out.lt.2.1; omega
    have hE9:=hS9.setC hk hl9 hf9 hok
    obtain ⟨a9,c9,rfl⟩:=own_len hB.own
    refine wpOp_one (o:=ogM13) (by rfl) rfl ?_
    unfold ogM13
    unfold Oper.wp
    go_simp
    refine wpAny_done (by kernel_rfl) ?_ _
    exact hQ _ _ _ _ _ _ _ _ _ _ (W9.setCell ⟨cb,loc,none⟩ _) hE9 ((Fr.of_below hB.bel).trans (Fr.set W9 cb loc _ (.inr (.inr (.inl rfl)))))
   ·obtain ⟨v9,W9,hr9,hB9⟩:=hB.app (t:=22) (e0:=3) (z:=.int .i64 0) (bytes:=8) Try.underlying22 infoInt rfl (by omega) (by omega) 22 (some ⟨B8,0,none⟩) 1 1 [.int .i64 (x:Int)] rfl (.inr ⟨_,rfl,by rw [hB8]; exact into_src hB (by first | exact List.mem_cons_self .. | exact List.mem_cons_of_mem _ (List.mem_cons_self ..))⟩) (by intro u hu; simp at hu; subst hu; rfl) (by omega)
    clear hB
    have hB:=hB9
    clear hB9
    refine wpOp_one (o:=ogM11) (by rfl) rfl ?_
    unfold ogM11
    refine appOp (Operand.tmp 89) (Operand.tmp 91) 22 rfl (by kernel_rfl) (by rw [hB8]; kernel_rfl) hr9 ?_
    refine wpAny_all (rs:=[1]) (by kernel_rfl) (by simp) ?_
    intro i hi
    simp only [List.mem_singleton] at hi
    subst hi
    have cx:=cell_next hp hB.bel
    refine wpOp_one (o:=ogM8) (by rfl) rfl ?_
    unfold ogM8
    unfold Oper.wp
    go_simp
    clear cx
    refine wpAny_all (rs:=[8]) (by kernel_rfl) (by simp) ?_
    intro i hi
    simp only [List.mem_singleton] at hi
    subst hi
    refine wpOp_one (o:=ogM12) (by rfl) rfl ?_
    unfold ogM12
    unfold Oper.wp
    go_simp
    refine wpAny_all (rs:=[9]) (by kernel_rfl) (by simp) ?_
    intro i hi
    simp only [List.mem_singleton] at hi
    subst hi
    have hS9:=HS.out.next hB.bel
    obtain ⟨d1,d2⟩:=hS9.cr.cell hk
    have hl9:LV W9 v9 (was ++ [(x:Int)]):=LV.of_own (by rw [nints_app]; exact hB.own) (by simp)
    have hf9:∀ b,v9.ownBlock=some b→b ≠ rb:=fun b q=>by have:=(hB.own.lt b q).1; have:=HS.out.lt.2.1; omega
    have hE9:=hS9.setC hk hl9 hf9 hok
    obtain ⟨a9,c9,rfl⟩:=own_len hB.own
    refine wpOp_one (o:=ogM13) (by rfl) rfl ?_
    unfold ogM13
    unfold Oper.wp
    go_simp
    refine wpAny_done (by kernel_rfl) ?_ _
    exact hQ _ _ _ _ _ _ _ _ _ _ (W9.setCell ⟨cb,loc,none⟩ _) hE9 ((Fr.of_below hB.bel).trans (Fr.set W9 cb loc _ (.inr (.inr (.inl rfl)))))
end Go.Proofs.Yteghpophcnehgaa
