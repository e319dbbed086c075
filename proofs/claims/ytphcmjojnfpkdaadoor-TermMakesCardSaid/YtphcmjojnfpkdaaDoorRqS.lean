/-
  One text of a symbolic evaluator over the model, shown sound once for every program: no statement is claimed here.
-/
import Derived.Test.YtphcmjojnfpkdaaDoorRqR
namespace Go.Rn
variable {ρ : Nat → Int} {P : Program}
/-! a beginning with rows of which the runner knows what it says: a block, its cells as a chain, how many -/
abbrev VRows := List (Nat × RV × Nat)
noncomputable def startV : VRows → H3 → (H3 → A) → A
  | [], h, k => k h
  | r :: l, h, k => ifA (Nat.beq r.2.2 MAPZ) .no (lay3 r.2.1 ce3 0 fun cs _ => hupd h r.1 (fun _ f => f (bkB cs r.2.2)) fun h => startV l h k)
noncomputable def heapV : VRows → HT → HT
  | [], h => h
  | r :: l, h => heapV l (hst h (.bk (lay r.2.1 ce 0) r.2.2) r.1)
theorem startV_ok : ∀ {l : VRows} {h3 : H3} {h : HT} {k : H3 → A}, HRel h3 h → Good (startV l h3 k) → ∃ h3', HRel h3' (heapV l h) ∧ Good (k h3')
  | [], _, _, _, r, e => ⟨_, r, e⟩
  | q :: l, h3, h, k, r, e => by
    rcases ifA_ok e with ⟨_, e⟩ | ⟨hz, e⟩
    · exact Good.no e
    have hmz : q.2.2 ≠ MAPZ := fun p => by rw [p] at hz; exact absurd hz (by decide)
    obtain ⟨_, _, c3, rc, h1⟩ := lay3_ok ce3_ok e
    obtain ⟨_, b3, g, _, h2, h4⟩ := hupd_ok r h1
    obtain ⟨h5, r5, e5⟩ := h4 (bkB c3 q.2.2) (.bk (lay q.2.1 ce 0) q.2.2) (.inl ⟨hmz, c3, rfl, rc⟩) h2
    exact startV_ok (l := l) r5 e5
theorem heapV_at : ∀ {l : VRows} {h : HT} {b : Nat} {c : CT} {z : Nat}, hg (heapV l h) b = .bk c z → hg h b = .bk c z ∨ ∃ r ∈ l, b = r.1 ∧ c = lay r.2.1 ce 0 ∧ z = r.2.2
  | [], _, _, _, _, e => .inl e
  | q :: l, h, b, c, z, e => by
    rcases heapV_at (l := l) e with h1 | ⟨r, h1, h2⟩
    · rcases hg_hst h (.bk (lay q.2.1 ce 0) q.2.2) q.1 b with ⟨h2, h3 | h3⟩ | ⟨_, h3⟩
      · rw [h3] at h1; cases h1; exact .inr ⟨q, List.mem_cons_self, h2, rfl, rfl⟩
      · rw [h3] at h1; cases h1
      · rw [h3] at h1; exact .inl h1
    · exact .inr ⟨r, List.mem_cons_of_mem _ h1, h2⟩
/-- the rows lie in their variables -/
def RowsV (l : VRows) (w : World) : Prop := ∀ r ∈ l, chLen r.2.1 = some r.2.2 ∧ ∃ (C : Array Value) (el : TypeId) (fr : Nat × Nat) (vs : List Value), w.heap[r.1]? = some (.cells C el fr) ∧ (∀ (ρ : Nat → Int) (m : Mp), denC ρ m r.2.1 vs) ∧ (∀ v ∈ vs, Cell v) ∧ ∀ (j : Nat) (v : Value), vs[j]? = some v → C[j]? = some v
def rowsVB (l : VRows) : Bool := l.all fun r => Nat.blt r.1 97 && !Nat.beq r.2.2 MAPZ
theorem simV {l : VRows} {w : World} (hb : rowsVB l = true) (hK : RowsV l w) : Sim P ρ (mR w) 100 (heapV l he) w := by
  have hr : ∀ r ∈ l, r.1 < 97 ∧ r.2.2 ≠ MAPZ := fun r hr => by
    have := List.all_eq_true.1 hb r hr
    simp only [Bool.and_eq_true, Nat.blt_eq] at this
    exact ⟨this.1, fun q => by have h := this.2; rw [q] at h; exact absurd h (by decide)⟩
  have hid : ∀ b B O Z, mR w b = some (B, O, Z) → B = b := fun b B O Z e => by
    unfold mR at e
    split at e
    · cases e; rfl
    · cases e
  refine ⟨fun b c z e => ?_, fun b b' c z c' z' B O Z O' Z' _ _ e3 e4 => .inl ((hid _ _ _ _ e3).symm.trans (hid _ _ _ _ e4))⟩
  rcases heapV_at e with h1 | ⟨r, h1, rfl, rfl, rfl⟩
  · rw [hg_he] at h1; cases h1
  · obtain ⟨h2, h4⟩ := hr r h1
    obtain ⟨hl, C, el, fr, vs, hB, hd, hc, hv⟩ := hK r h1
    have hkn := knows_lay (ρ := ρ) (m := mR w) (C := C) (O := 0) hl (hd ρ (mR w)) hc (fun k u hk => by rw [Nat.zero_add]; exact hv k u hk)
    refine ⟨r.1, 0, sizeAt w r.1, by unfold mR; rw [if_pos (by omega)], .inl ⟨h4, C, el, fr, hB, by unfold sizeAt; rw [hB], fun hg => by omega, hkn.1, hkn.2⟩⟩
/-- a law over variables of which something is known -/
theorem law_rowsV {ys : Ys} {fs : Nat → Option RF} {orc : Nat → RV → Option RV} (hy : YsOk ρ ys) (hfs : ∀ f r, fs f = some r → compF P f = some r) (ho : OrcOk P ρ orc) {kc : Kc} (hk : KcOk P ρ kc) (hgl : P.globals.size ≤ 100) {l : VRows} (hb : rowsVB l = true) {w : World} (hex : ∀ k, k < P.globals.size → 0 < ρ (1000000 + k) → (sizeAt w k : Int) = ρ (1000000 + k)) (hK : RowsV l w) {deep f : Nat} {c : RV}
    (e : startV l he3 (fun h => call3 ys 100 fs orc kc deep f c h 100 isT) = .yes) {vs : List Value} (hd : ∀ m, denC ρ m c vs) (hf : f < 16777216 := by decide) : Calls P f vs.toArray w fun e w' => e = .returned (.bool true) ∧ Old w w' := by
  obtain ⟨h3, hH, h1⟩ := startV_ok he3_ok (show Good (startV l he3 (fun h => call3 ys 100 fs orc kc deep f c h 100 isT)) from e)
  refine law_laid hy hfs ho hk (n := 100) (g := 100) (Nat.le_refl _) (fun b c z hb0 => ?_) (simV hb hK) (fun b hb0 => ⟨sizeAt w b, by unfold mR; rw [if_pos (by omega)], hex b hb0⟩) (fun b hb0 => by unfold mR; rw [if_neg (by omega)]) (quick hH h1) (hd _) hf
  rcases heapV_at hb0 with h2 | ⟨r, h2, rfl, _⟩
  · rw [hg_he] at h2; cases h2
  · have := List.all_eq_true.1 hb r h2
    simp only [Bool.and_eq_true, Nat.blt_eq] at this
    exact Nat.lt_trans this.1 (by decide)
/-- a value of an interface of which only the type is known -/
def ifU (t : Nat) : RV := .fn (33554432 + t) (.cons .nil (.cons .un .nil))
theorem ifU_den {m : Mp} {t : Nat} {y : Value} : den ρ m (ifU t) (.iface t y) := if_den (x := .un) trivial
end Go.Rn
