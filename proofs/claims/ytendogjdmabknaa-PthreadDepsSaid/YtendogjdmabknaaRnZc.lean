/-
  One text of a symbolic evaluator over the model, shown sound once for every program: no statement is claimed here.
-/
import Derived.Test.YtendogjdmabknaaRnZb
import Derived.Below
namespace Go.Rn
variable {ρ : Nat → Int} {P : Program}
variable {g : Nat} {ys : Ys}
/-- calls, some of them known beforehand -/
abbrev Kc := Nat → RV → Option (Nat × RV)
/-- nothing is known of what a table makes true -/
noncomputable def noKc : Kc := fun _ _ => none
/-- does the table lie where it lay? then it is true -/
noncomputable def kcChk (h : HT) (n z : Nat) (ch : RV) : SR := gK (.bad [160]) (hg h 0) fun cs _ => nU (.bad [161]) (rd cs z 0) fun r => bf (eqV r ch) (.ok (.b true) h n) (.bad [162])
noncomputable def callX (ys : Ys) (fs : Nat → Option RF) (orc : Nat → RV → Option RV) (kc : Kc) (deep : Nat) : Cl' :=
  @Nat.rec (fun _ => Cl') (fun _ _ _ _ _ => .bad [91]) (fun _ ih f a fl h n => gO (gO (gO (.bad [92, f]) (fs f) fun r => callF ys ih f r a fl h n) (orc f a) fun v => .ok v h n) (kc f a) fun q => kcChk h n q.1 q.2) deep
/-- nothing old has turned -/
structure Old (w w' : World) : Prop where
  os : w'.os = w.os
  tape : w'.tape = w.tape
  output : w'.output = w.output
  size : w.heap.size ≤ w'.heap.size
  block : ∀ k, k < w.heap.size → w'.heap[k]? = w.heap[k]?
theorem Old.refl (w : World) : Old w w := ⟨rfl, rfl, rfl, Nat.le_refl _, fun _ _ => rfl⟩
theorem Old.below {w w' : World} (o : Old w w') : Go.RowKit.Below w.heap.size w w' := ⟨o.os, o.tape, o.output, o.size, o.block⟩
def OrcOk (P : Program) (ρ : Nat → Int) (orc : Nat → RV → Option RV) : Prop := ∀ f c v, orc f c = some v → known P f = true ∧ ∀ (m : Mp) (w : World) (vs : List Value), denC ρ m c vs → Calls P f vs.toArray w (fun e w' => ∃ u, e = .returned u ∧ Old w w' ∧ den ρ m v u)
theorem Tr.old {fl n : Nat} {h : HT} {m : Mp} {w w' : World} (s : Sim P ρ m g h w) (o : Old w w') : Tr P ρ g fl h n m w h n m w' := by
  refine ⟨⟨fun b c z hb => ?_, s.inj⟩, Ext.refl _ _ _, ⟨o.os, o.tape, o.output, o.size, fun k hk _ => o.block k hk, fun k r h => ⟨r, (o.block k (Array.getElem?_eq_some_iff.1 h).1).trans h⟩⟩, fun b c z B O Z h1 h2 h3 => .inr ⟨b, c, z, O, Z, h1, h2, h3⟩⟩
  obtain ⟨B, O, Z, q1, q2⟩ := s.cell b c z hb
  exact ⟨B, O, Z, q1, q2.move (o.block B (s.lt hb q1)) (Le.refl _)⟩
/-- what a table makes true: it lies in the first variable -/
def KcOk (P : Program) (ρ : Nat → Int) (kc : Kc) : Prop := 0 < P.globals.size ∧ ∀ f c q, kc f c = some q → known P f = true ∧ ∀ (m : Mp) (w : World) (vs us : List Value) (C : Array Value) (el : TypeId) (fr : Nat × Nat), denC ρ m c vs → w.heap[0]? = some (.cells C el fr) → denC ρ m q.2 us → (∀ (j : Nat) (u : Value), us[j]? = some u → C[j]? = some u) →
  Calls P f vs.toArray w (fun e w' => e = .returned (.bool true) ∧ Old w w')
theorem callX_ok (hy : YsOk ρ ys) (fs : Nat → Option RF) (hfs : ∀ f r, fs f = some r → compF P f = some r) {orc : Nat → RV → Option RV} (ho : OrcOk P ρ orc) {kc : Kc} (hk : ∀ f c q, kc f c = some q → KcOk P ρ kc) : ∀ deep, ClOk P ρ g (callX ys fs orc kc deep)
  | 0 => fun f c fl h n v h' n' e _ _ => by cases e
  | deep + 1 => fun f c fl h n v h' n' e hgf hf => by
    have ih := callX_ok hy fs hfs ho hk deep
    have ek : gO (gO (gO (SR.bad [92, f]) (fs f) fun r => callF ys (callX ys fs orc kc deep) f r c fl h n) (orc f c) (fun v => .ok v h n)) (kc f c) (fun q => kcChk h n q.1 q.2) = .ok v h' n' := e
    rcases gO_or ek with ⟨q, h1, h2⟩ | ⟨_, e0⟩
    · obtain ⟨hgl, hkc⟩ := hk f c q h1
      obtain ⟨k1, k2⟩ := hkc f c q h1
      have e2 : gK (SR.bad [160]) (hg h 0) (fun cs _ => nU (.bad [161]) (rd cs q.1 0) fun r => bf (eqV r q.2) (.ok (.b true) h n) (.bad [162])) = .ok v h' n' := h2
      obtain ⟨cs, z, hb, e3⟩ := gK_ok e2 (by simp)
      have hmz := gK_mz e2 (by simp) hb
      obtain ⟨hu, e4⟩ := nU_ok e3 (by simp)
      obtain ⟨he, e5⟩ := bf_ok e4 (by simp)
      cases e5
      refine ⟨Ab.refl _ _ _, fun _ => ⟨k1, fun m w vs s gl hd _ => ?_⟩, fun q => absurd (known_lt k1) (Nat.not_lt_of_le q)⟩
      obtain ⟨Z, hz⟩ := gl 0 hgl
      obtain ⟨B', O', Z', C, el, fr, q1, q2, q3, hcl⟩ := cellAt s hb hmz
      rw [hz] at q1
      cases q1
      obtain ⟨_, us, hl, hd2, hc, hj⟩ := rd_ok q3 q.1 0 hu
      rw [eqV_ok _ _ he] at hd2
      refine (k2 m w vs us C el fr hd q2 hd2 (fun j u hju => by have := hj j u hju; simpa using this)).mono ?_
      rintro e w' ⟨rfl, o⟩
      exact ⟨_, m, rfl, Tr.old s o, rfl⟩
    rcases gO_or e0 with ⟨u, h1, h2⟩ | ⟨_, e1⟩
    · cases h2
      obtain ⟨k1, k2⟩ := ho f c v h1
      refine ⟨Ab.refl _ _ _, fun _ => ⟨k1, fun m w vs s _ hd _ => (k2 m w vs hd).mono ?_⟩, fun q => absurd (known_lt k1) (Nat.not_lt_of_le q)⟩
      rintro e w' ⟨u, rfl, o, hu⟩
      exact ⟨u, m, rfl, Tr.old s o, hu⟩
    · obtain ⟨r, hr, e2⟩ := gO_ok e1 (by simp)
      exact any_ok hy (fun _ _ _ _ h1 h2 => dr_ok hy h1 h2) ih (hfs f r hr) hgf hf e2
theorem no_ys : YsOk ρ (fun _ _ _ => none) := fun _ _ _ _ h => by cases h
def isB (r : SR) : Bool := match r with | .ok (.b true) _ _ => true | _ => false
/-- a law from an empty beginning: it returns true, nothing old has turned -/
theorem law_true {orc : Nat → RV → Option RV} (ho : OrcOk P ρ orc) {deep f : Nat} {c : RV} {n : Nat} (hg : P.globals.size ≤ n) (e : isB (callX (fun _ _ _ => none) (fun f => compF P f) orc noKc deep f c 0 he n) = true) {vs : List Value} (hd : ∀ m, denC ρ m c vs) (w : World) (hf : f < 16777216 := by decide) :
    Calls P f vs.toArray w fun e w' => e = .returned (.bool true) ∧ Old w w' := by
  unfold isB at e
  split at e
  · rename_i h' n' hx
    obtain ⟨_, hc1, _⟩ := callX_ok (g := 0) no_ys (fun f => compF P f) (fun _ _ h => h) ho (kc := noKc) (fun _ _ _ h => by cases h) deep f c 0 he n _ _ _ hx (Nat.le_refl _) (Nat.zero_le _)
    obtain ⟨_, hc⟩ := hc1 hf
    refine (hc (fun b => if b < P.globals.size then some (b, 0, 0) else none) w vs ⟨fun b c z hb => (by rw [hg_he] at hb; cases hb), fun b b' c z c' z' B O Z O' Z' hb => (by rw [hg_he] at hb; cases hb)⟩ (fun k hk => ⟨0, if_pos hk⟩) (hd _) (fun b h1 _ => if_neg (by omega))).mono ?_
    rintro e w' ⟨u, m', rfl, T, hu⟩
    have : u = .bool true := hu
    subst this
    exact ⟨rfl, T.keep.os, T.keep.tape, T.keep.output, T.keep.size, fun k hk => T.keep.block k hk (fun b c z O Z _ hb => (by rw [hg_he] at hb; cases hb))⟩
  · cases e
end Go.Rn
