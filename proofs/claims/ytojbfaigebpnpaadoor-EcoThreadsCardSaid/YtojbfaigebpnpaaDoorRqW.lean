/-
  One text of a symbolic evaluator over the model, shown sound once for every program: no statement is claimed here.
-/
import Derived.Test.YtojbfaigebpnpaaDoorRqR
namespace Go.Rn
variable {ρ:Nat→Int} {P:Program}
/-! a beginning with rows that are laid in variables and ONE row somewhere else (a slice that comes in) -/
def mB (w:World) (B o:Nat):Mp:=fun b=>if b=50 then some (B,o,sizeAt w B) else if b < 100 then some (b,0,sizeAt w b) else none
theorem sim_both {l:LRows} {w:World} (hb:rowsB l=true) (hK:RowsAt l w) (h50:∀ r ∈ l,r.1 ≠ 50) {B o q:Nat} {C:Array Value} {el:TypeId} {fr:Nat × Nat} (hB:w.heap[B]?=some (.cells C el fr)) (hne:∀ r ∈ l,r.1 ≠ B)
  {c:RV} {vs:List Value} (hl:chLen c=some q) (hd:denC ρ (mB w B o) c vs) (hc:∀ v ∈ vs,Cell v) (hv:∀ (j:Nat) (v:Value),vs[j]?=some v→C[o + j]?=some v) (hmz:q ≠ MAPZ) :
  Sim P ρ (mB w B o) 100 (heapR l (hst he (.bk (lay c ce 0) q) 50)) w:=by
 have hr:∀ r ∈ l,r.1 < 100∧(∀ v ∈ r.2,PlainV v)∧r.2.length ≠ MAPZ:=fun r hr=>by
  have:=List.all_eq_true.1 hb r hr
  simp only [Bool.and_eq_true,Nat.blt_eq,List.all_eq_true] at this
  refine ⟨this.1,fun v hv=>?_,fun q=>by have h:=this.2.2; rw [q] at h; exact absurd h (by decide)⟩
  have h1:=this.2.1 v hv
  cases v <;> first | trivial | cases h1
 have one:∀ b' c' z,Rn.hg (hst he (.bk (lay c ce 0) q) 50) b'=.bk c' z→b'=50∧c'=lay c ce 0∧z=q:=by
  intro b' c' z h
  rcases hg_hst he (.bk (lay c ce 0) q) 50 b' with ⟨h1,h2 | h2⟩ | ⟨_,h2⟩
  ·rw [h2] at h; cases h; exact ⟨h1,rfl,rfl⟩
  ·rw [h2] at h; cases h
  ·rw [h2,hg_he] at h; cases h
 have which:∀ b c' z,hg (heapR l (hst he (.bk (lay c ce 0) q) 50)) b=.bk c' z→(b=50∧c'=lay c ce 0∧z=q) ∨ ∃ r ∈ l,b=r.1∧c'=lay (chain r.2) ce 0∧z=r.2.length:=fun b c' z e=>by
  rcases heapR_at e with h1 | h1
  ·exact .inl (one _ _ _ h1)
  ·exact .inr h1
 have mrow:∀ r ∈ l,mB w B o r.1=some (r.1,0,sizeAt w r.1):=fun r h=>by unfold mB; rw [if_neg (h50 r h),if_pos (hr r h).1]
 have m50:mB w B o 50=some (B,o,sizeAt w B):=if_pos rfl
 have hsz:sizeAt w B=C.size:=by unfold sizeAt; rw [hB]
 refine ⟨fun b c' z e=>?_,fun b b' c' z c'' z' B1 O Z O' Z' e1 e2 e3 e4=>?_⟩
 ·rcases which b c' z e with ⟨rfl,rfl,rfl⟩ | ⟨r,h1,rfl,rfl,rfl⟩
  ·have hkn:=knows_lay (ρ:=ρ) (m:=mB w B o) (C:=C) (O:=o) hl hd hc hv
   exact ⟨B,o,sizeAt w B,m50,.inl ⟨hmz,C,el,fr,hB,hsz.symm,fun hg=>by omega,hkn.1,hkn.2⟩⟩
  ·obtain ⟨h2,h3,h4⟩:=hr r h1
   obtain ⟨C',el',fr',hB',hv'⟩:=hK r h1
   have hkn:=knows_lay (ρ:=ρ) (m:=mB w B o) (C:=C') (O:=0) (chain_len r.2) (chain_is h3) (fun v hv=>plain_cell (h3 v hv)) (fun k u hk=>by rw [Nat.zero_add]; exact hv' k u hk)
   exact ⟨r.1,0,sizeAt w r.1,mrow r h1,.inl ⟨h4,C',el',fr',hB',by unfold sizeAt; rw [hB'],fun hg=>by omega,hkn.1,hkn.2⟩⟩
 ·rcases which _ _ _ e1 with ⟨rfl,_,_⟩ | ⟨r,h1,rfl,_,_⟩ <;> rcases which _ _ _ e2 with ⟨rfl,_,_⟩ | ⟨r',h1',rfl,_,_⟩
  ·rfl
  ·rw [m50] at e3; rw [mrow r' h1'] at e4
   cases e3; cases e4
   exact absurd rfl (hne r' h1')
  ·rw [m50] at e4; rw [mrow r h1] at e3
   cases e4; cases e3
   exact absurd rfl (hne r h1)
  ·rw [mrow r h1] at e3; rw [mrow r' h1'] at e4
   exact (Prod.mk.inj (Option.some.inj e3)).1.trans (Prod.mk.inj (Option.some.inj e4)).1.symm
theorem law_both {ys:Ys} {fs:Nat→Option RF} {orc:Nat→RV→Option RV} (hy:YsOk ρ ys) (hfs:∀ f r,fs f=some r→compF P f=some r) (ho:OrcOk P ρ orc) {kc:Kc} (hk:KcOk P ρ kc) (hgl:P.globals.size≤50) {l:LRows} (hb:rowsB l=true) {w:World} (hK:RowsAt l w) (h50:∀ r ∈ l,r.1 ≠ 50)
  {B o q:Nat} {C:Array Value} {el:TypeId} {fr:Nat × Nat} (hB:w.heap[B]?=some (.cells C el fr)) (hne:∀ r ∈ l,r.1 ≠ B) {ch:RV} {us:List Value} (hl:chLen ch=some q) (hd:denC ρ (mB w B o) ch us) (hc:∀ v ∈ us,Cell v) (hv:∀ (j:Nat) (v:Value),us[j]?=some v→C[o + j]?=some v) (hmz:q ≠ MAPZ)
  {deep f:Nat} {c:RV} (e:start3 ch 50 q (fun h=>startR l h fun h=>call3 ys 100 fs orc kc deep f c h 100 isT)=.yes) {vs:List Value} (hda:denC ρ (mB w B o) c vs) (hf:f < 16777216:=by decide):Calls P f vs.toArray w fun e w'=>e=.returned (.bool true)∧Old w w':=by
 obtain ⟨h2,H2,e2⟩:=start3_ok (show Good (start3 ch 50 q (fun h=>startR l h fun h=>call3 ys 100 fs orc kc deep f c h 100 isT)) from e)
 obtain ⟨h3,H3,e3⟩:=startR_ok H2 e2
 have lt100:∀ b c z,hg (heapR l (hst he (.bk (lay ch ce 0) q) 50)) b=.bk c z→b < 100:=fun b c' z h0=>by
  rcases heapR_at h0 with h1 | ⟨r,h1,rfl,_⟩
  ·rcases hg_hst he (.bk (lay ch ce 0) q) 50 b with ⟨p,_⟩ | ⟨_,p⟩
   ·omega
   ·rw [p,hg_he] at h1; cases h1
  ·have:=List.all_eq_true.1 hb r h1
   simp only [Bool.and_eq_true,Nat.blt_eq] at this
   exact this.1
 exact law_laid hy hfs ho hk (n:=100) (g:=100) (Nat.le_refl _) lt100 (sim_both hb hK h50 hB hne hl hd hc hv hmz) (fun b hb0=>⟨sizeAt w b,by unfold mB; rw [if_neg (by omega),if_pos (by omega)]⟩) (fun b hb0=>by unfold mB; rw [if_neg (by omega),if_neg (by omega)]) (quick H3 e3) hda hf
def mX (w:World) (x:Nat × Nat × Nat):Mp:=fun b=>if b=50 then some x else if b < 100 then some (b,0,sizeAt w b) else none
theorem sim_rows {l:LRows} {w:World} (hb:rowsB l=true) (hK:RowsAt l w) (h50:∀ r ∈ l,r.1 ≠ 50) {x:Nat × Nat × Nat}:Sim P ρ (mX w x) 100 (heapR l he) w:=by
 have hr:∀ r ∈ l,r.1 < 100∧(∀ v ∈ r.2,PlainV v)∧r.2.length ≠ MAPZ:=fun r hr=>by
  have:=List.all_eq_true.1 hb r hr
  simp only [Bool.and_eq_true,Nat.blt_eq,List.all_eq_true] at this
  refine ⟨this.1,fun v hv=>?_,fun q=>by have h:=this.2.2; rw [q] at h; exact absurd h (by decide)⟩
  have h1:=this.2.1 v hv
  cases v <;> first | trivial | cases h1
 have which:∀ b c' z,hg (heapR l he) b=.bk c' z→∃ r ∈ l,b=r.1∧c'=lay (chain r.2) ce 0∧z=r.2.length:=fun b c' z e=>by
  rcases heapR_at e with h1 | h1
  ·rw [hg_he] at h1; cases h1
  ·exact h1
 have mrow:∀ r ∈ l,mX w x r.1=some (r.1,0,sizeAt w r.1):=fun r h=>by unfold mX; rw [if_neg (h50 r h),if_pos (hr r h).1]
 refine ⟨fun b c' z e=>?_,fun b b' c' z c'' z' B1 O Z O' Z' e1 e2 e3 e4=>?_⟩
 ·obtain ⟨r,h1,rfl,rfl,rfl⟩:=which b c' z e
  obtain ⟨h2,h3,h4⟩:=hr r h1
  obtain ⟨C',el',fr',hB',hv'⟩:=hK r h1
  have hkn:=knows_lay (ρ:=ρ) (m:=mX w x) (C:=C') (O:=0) (chain_len r.2) (chain_is h3) (fun v hv=>plain_cell (h3 v hv)) (fun k u hk=>by rw [Nat.zero_add]; exact hv' k u hk)
  exact ⟨r.1,0,sizeAt w r.1,mrow r h1,.inl ⟨h4,C',el',fr',hB',by unfold sizeAt; rw [hB'],fun hg=>by omega,hkn.1,hkn.2⟩⟩
 ·obtain ⟨r,h1,rfl,_,_⟩:=which _ _ _ e1
  obtain ⟨r',h1',rfl,_,_⟩:=which _ _ _ e2
  rw [mrow r h1] at e3; rw [mrow r' h1'] at e4
  exact (Prod.mk.inj (Option.some.inj e3)).1.trans (Prod.mk.inj (Option.some.inj e4)).1.symm
theorem law_free {ys:Ys} {fs:Nat→Option RF} {orc:Nat→RV→Option RV} (hy:YsOk ρ ys) (hfs:∀ f r,fs f=some r→compF P f=some r) (ho:OrcOk P ρ orc) {kc:Kc} (hk:KcOk P ρ kc) (hgl:P.globals.size≤50) {l:LRows} (hb:rowsB l=true) {w:World} (hK:RowsAt l w) (h50:∀ r ∈ l,r.1 ≠ 50) {x:Nat × Nat × Nat}
  {deep f:Nat} {c:RV} (e:startR l he3 (fun h=>call3 ys 100 fs orc kc deep f c h 100 isT)=.yes) {vs:List Value} (hda:denC ρ (mX w x) c vs) (hf:f < 16777216:=by decide):Calls P f vs.toArray w fun e w'=>e=.returned (.bool true)∧Old w w':=by
 obtain ⟨h3,H3,e3⟩:=startR_ok he3_ok (show Good (startR l he3 fun h=>call3 ys 100 fs orc kc deep f c h 100 isT) from e)
 have lt100:∀ b c z,hg (heapR l he) b=.bk c z→b < 100:=fun b c' z h0=>by
  rcases heapR_at h0 with h1 | ⟨r,h1,rfl,_⟩
  ·rw [hg_he] at h1; cases h1
  ·have:=List.all_eq_true.1 hb r h1
   simp only [Bool.and_eq_true,Nat.blt_eq] at this
   exact this.1
 exact law_laid hy hfs ho hk (n:=100) (g:=100) (Nat.le_refl _) lt100 (sim_rows hb hK h50) (fun b hb0=>⟨sizeAt w b,by unfold mX; rw [if_neg (by omega),if_pos (by omega)]⟩) (fun b hb0=>by unfold mX; rw [if_neg (by omega),if_neg (by omega)]) (quick H3 e3) hda hf
theorem row_ne {w:World} {b:Nat} {kv:List Value} (hK:∃ C el fr,w.heap[b]?=some (.cells C el fr)∧(∀ (j:Nat) (v:Value),kv[j]?=some v→C[j]?=some v)∧C.size=kv.length) (hu:∀ v ∈ kv,∀ z,v ≠ .int .i64 z)
  {B o:Nat} {z:Int} {C:Array Value} {el:TypeId} {fr:Nat × Nat} (hB:w.heap[B]?=some (.cells C el fr)) (h0:C[o]?=some (.int .i64 z)):b ≠ B:=by
 rintro rfl
 obtain ⟨C',el',fr',h1,h2,h3⟩:=hK
 rw [hB] at h1
 cases h1
 have ho:o < kv.length:=by
  rw [← h3]
  rcases Nat.lt_or_ge o C.size with h | h
  ·exact h
  ·rw [Array.getElem?_eq_none h] at h0; cases h0
 have h4:=h2 o kv[o] (List.getElem?_eq_getElem ho)
 rw [h0] at h4
 exact hu _ (List.getElem_mem ho) z (Option.some.inj h4).symm
end Go.Rn
