/-
  One text of a symbolic evaluator over the model, shown sound once for every program: no statement is claimed here.
-/
import Derived.Test.YthfaoceleaaepaaGreatDoorRqS
namespace Go.Rn
variable {ρ:Nat→Int} {P:Program}
/-! a beginning with rows of variables and three errors that stand somewhere: their blocks bear the numbers 97,98,99 -/
def errAt (b:Nat) (a0 a1 a2:Addr):Addr:=if b=97 then a0 else if b=98 then a1 else a2
def mE (w:World) (a0 a1 a2:Addr):Mp:=fun b=>if b < 97 then some (b,0,sizeAt w b) else if b < 100 then some ((errAt b a0 a1 a2).block,(errAt b a0 a1 a2).off,sizeAt w (errAt b a0 a1 a2).block) else none
structure RowsE (l:VRows) (w:World) (a0 a1 a2:Addr):Prop where
 row:∀ r ∈ l,chLen r.2.1=some r.2.2∧∃ (C:Array Value) (el:TypeId) (fr:Nat × Nat) (vs:List Value),w.heap[r.1]?=some (.cells C el fr)∧(∀ (ρ:Nat→Int),denC ρ (mE w a0 a1 a2) r.2.1 vs)∧(∀ v ∈ vs,Cell v)∧∀ (j:Nat) (v:Value),vs[j]?=some v→C[j]?=some v
 err:∀ a,a=a0 ∨ a=a1 ∨ a=a2→a.spot=none∧∃ (C:Array Value) (el:TypeId),w.heap[a.block]?=some (.cells C el (0,0))
 n01:a0 ≠ a1
 n02:a0 ≠ a2
 n12:a1 ≠ a2
noncomputable def errRows (l:VRows):VRows:=l ++ [(97,.nil,0),(98,.nil,0),(99,.nil,0)]
theorem addr_apart {a b:Addr} (h:a ≠ b) (ha:a.spot=none) (hb:b.spot=none) (e:a.block=b.block):a.off ≠ b.off:=fun q=>h (by
 cases a; cases b; simp_all)
theorem simE {l:VRows} {w:World} {a0 a1 a2:Addr} (hb:rowsVB l=true) (hK:RowsE l w a0 a1 a2):Sim P ρ (mE w a0 a1 a2) 100 (heapV (errRows l) he) w:=by
 have hr:∀ r ∈ l,r.1 < 97∧r.2.2 ≠ MAPZ:=fun r hr=>by
  have:=List.all_eq_true.1 hb r hr
  simp only [Bool.and_eq_true,Nat.blt_eq] at this
  exact ⟨this.1,fun q=>by have h:=this.2; rw [q] at h; exact absurd h (by decide)⟩
 have lo:∀ b B O Z,b < 97→mE w a0 a1 a2 b=some (B,O,Z)→B=b:=fun b B O Z hb e=>by
  unfold mE at e
  rw [if_pos hb] at e
  cases e; rfl
 have hi:∀ b B O Z,97≤b→mE w a0 a1 a2 b=some (B,O,Z)→b < 100∧(errAt b a0 a1 a2).block=B∧(errAt b a0 a1 a2).off=O:=fun b B O Z hb e=>by
  unfold mE at e
  rw [if_neg (by omega)] at e
  split at e
  ·cases e; exact ⟨by omega,rfl,rfl⟩
  ·cases e
 have s0:=(hK.err a0 (.inl rfl)).1
 have s1:=(hK.err a1 (.inr (.inl rfl))).1
 have s2:=(hK.err a2 (.inr (.inr rfl))).1
 refine ⟨fun b c z e=>?_,fun b b' c z c' z' B O Z O' Z' e1 e2 e3 e4=>?_⟩
 ·rcases heapV_at e with h1 | ⟨r,h1,rfl,rfl,rfl⟩
  ·rw [hg_he] at h1; cases h1
  ·rcases List.mem_append.1 h1 with h1 | h1
   ·obtain ⟨h2,h4⟩:=hr r h1
    obtain ⟨hl,C,el,fr,vs,hB,hd,hc,hv⟩:=hK.row r h1
    have hkn:=knows_lay (ρ:=ρ) (m:=mE w a0 a1 a2) (C:=C) (O:=0) hl (hd ρ) hc (fun k u hk=>by rw [Nat.zero_add]; exact hv k u hk)
    refine ⟨r.1,0,sizeAt w r.1,by unfold mE; rw [if_pos h2],.inl ⟨h4,C,el,fr,hB,by unfold sizeAt; rw [hB],fun hg=>by omega,hkn.1,hkn.2⟩⟩
   ·have h97:r.1=97 ∨ r.1=98 ∨ r.1=99:=by
     simp only [List.mem_cons,List.not_mem_nil,or_false] at h1
     rcases h1 with rfl | rfl | rfl <;> simp
    have hch:r.2.1=.nil∧r.2.2=0:=by
     simp only [List.mem_cons,List.not_mem_nil,or_false] at h1
     rcases h1 with rfl | rfl | rfl <;> exact ⟨rfl,rfl⟩
    have hmem:errAt r.1 a0 a1 a2=a0 ∨ errAt r.1 a0 a1 a2=a1 ∨ errAt r.1 a0 a1 a2=a2:=by
     unfold errAt
     rcases h97 with h | h | h <;> rw [h] <;> simp
    obtain ⟨_,C,el,hB⟩:=hK.err _ hmem
    refine ⟨(errAt r.1 a0 a1 a2).block,(errAt r.1 a0 a1 a2).off,sizeAt w (errAt r.1 a0 a1 a2).block,by unfold mE; rw [if_neg (by omega),if_pos (by omega)],.inl ⟨by rw [hch.2]; decide,C,el,(0,0),hB,by unfold sizeAt; rw [hB],fun _=>rfl,fun k _=>?_,fun k hk=>?_⟩⟩
    ·rw [hch.1]; exact cg_ce k
    ·rw [hch.1] at hk; exact absurd (cg_ce k) hk
 ·rcases Nat.lt_or_ge b 97 with p | p
  ·rcases Nat.lt_or_ge b' 97 with p' | p'
   ·exact .inl ((lo _ _ _ _ p e3).symm.trans (lo _ _ _ _ p' e4))
   ·exact .inr ⟨by omega,(hi _ _ _ _ p' e4).1,fun q=>by omega⟩
  ·obtain ⟨q1,q2,q3⟩:=hi _ _ _ _ p e3
   rcases Nat.lt_or_ge b' 97 with p' | p'
   ·exact .inr ⟨q1,by omega,fun _ q=>by omega⟩
   ·obtain ⟨r1,r2,r3⟩:=hi _ _ _ _ p' e4
    rcases Nat.decEq b b' with hne | h
    ·refine .inr ⟨q1,r1,fun _ _=>?_⟩
     rw [← q3,← r3]
     have hbl:(errAt b a0 a1 a2).block=(errAt b' a0 a1 a2).block:=q2.trans r2.symm
     have h0:errAt 97 a0 a1 a2=a0:=rfl
     have h1:errAt 98 a0 a1 a2=a1:=rfl
     have h2:errAt 99 a0 a1 a2=a2:=rfl
     have hb3:b=97 ∨ b=98 ∨ b=99:=by omega
     have hb4:b'=97 ∨ b'=98 ∨ b'=99:=by omega
     rcases hb3 with rfl | rfl | rfl <;> rcases hb4 with rfl | rfl | rfl <;> simp only [h0,h1,h2] at hbl ⊢ <;> first
      | exact absurd rfl hne
      | exact addr_apart hK.n01 s0 s1 hbl
      | exact addr_apart hK.n02 s0 s2 hbl
      | exact addr_apart hK.n12 s1 s2 hbl
      | exact addr_apart hK.n01.symm s1 s0 hbl
      | exact addr_apart hK.n02.symm s2 s0 hbl
      | exact addr_apart hK.n12.symm s2 s1 hbl
    ·exact .inl h
theorem law_rowsE {ys:Ys} {fs:Nat→Option RF} {orc:Nat→RV→Option RV} (hy:YsOk ρ ys) (hfs:∀ f r,fs f=some r→compF P f=some r) (ho:OrcOk P ρ orc) {kc:Kc} (hk:KcOk P ρ kc) (hgl:P.globals.size≤97) {l:VRows} (hb:rowsVB l=true) {w:World} (hex:∀ k,k < P.globals.size→0 < ρ (1000000 + k)→(sizeAt w k:Int)=ρ (1000000 + k)) {a0 a1 a2:Addr} (hK:RowsE l w a0 a1 a2) {deep f:Nat} {c:RV}
  (e:startV (errRows l) he3 (fun h=>call3 ys 100 fs orc kc deep f c h 100 isT)=.yes) {vs:List Value} (hd:∀ m,denC ρ m c vs) (hf:f < 16777216:=by decide):Calls P f vs.toArray w fun e w'=>e=.returned (.bool true)∧Old w w':=by
 obtain ⟨h3,hH,h1⟩:=startV_ok he3_ok (show Good (startV (errRows l) he3 (fun h=>call3 ys 100 fs orc kc deep f c h 100 isT)) from e)
 refine law_laid hy hfs ho hk (n:=100) (g:=100) (Nat.le_refl _) (fun b c z hb0=>?_) (simE hb hK) (fun b hb0=>⟨sizeAt w b,by unfold mE; rw [if_pos (by omega)],hex b hb0⟩) (fun b hb0=>by unfold mE; rw [if_neg (by omega),if_neg (by omega)]) (quick hH h1) (hd _) hf
 rcases heapV_at hb0 with h2 | ⟨r,h2,rfl,_⟩
 ·rw [hg_he] at h2; cases h2
 ·rcases List.mem_append.1 h2 with h2 | h2
  ·have:=List.all_eq_true.1 hb r h2
   simp only [Bool.and_eq_true,Nat.blt_eq] at this
   exact Nat.lt_trans this.1 (by decide)
  ·simp only [List.mem_cons,List.not_mem_nil,or_false] at h2
   rcases h2 with rfl | rfl | rfl <;> decide
def errV (t b:Nat):RV:=.fn (33554432 + t) (.cons .nil (.cons (.p b 0) .nil))
theorem errV_den {w:World} {a0 a1 a2:Addr} {t b:Nat} (h1:97≤b) (h2:b < 100) (hs:(errAt b a0 a1 a2).spot=none):den ρ (mE w a0 a1 a2) (errV t b) (.iface t (.pointer (some (errAt b a0 a1 a2)))):=by
 refine if_den ⟨(errAt b a0 a1 a2).block,(errAt b a0 a1 a2).off,sizeAt w (errAt b a0 a1 a2).block,by unfold mE; rw [if_neg (by omega),if_pos h2],?_⟩
 generalize errAt b a0 a1 a2=a at hs
 cases a
 simp_all
end Go.Rn
