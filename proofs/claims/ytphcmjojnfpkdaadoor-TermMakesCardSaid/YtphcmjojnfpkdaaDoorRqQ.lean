/-
  One text of a symbolic evaluator over the model, shown sound once for every program: no statement is claimed here.
-/
import Derived.Test.YtphcmjojnfpkdaaDoorRqP
import Derived.Test.YtphcmjojnfpkdaaDoorRnZf
namespace Go.Rn
variable {ρ : Nat → Int} {P : Program}
/-! a beginning with several rows that are laid: numbers and bools in variables -/
theorem chain_len : ∀ kv : List Value, chLen (chain kv) = some kv.length
  | [] => rfl
  | v :: r => by
    show gO none (chLen (chain r)) (fun n => some (n + 1)) = _
    rw [chain_len r]; rfl
theorem chain_is {m : Mp} : ∀ {kv : List Value}, (∀ v ∈ kv, PlainV v) → denC ρ m (chain kv) kv
  | [], _ => denC_nil.2 rfl
  | v :: r, hp => by
    refine denC_cons.2 ⟨v, r, rfl, ?_, chain_is fun x hx => hp x (List.mem_cons_of_mem _ hx)⟩
    have hv := hp v List.mem_cons_self
    cases v <;> first | exact hv.elim | rfl
theorem plain_cell {v : Value} (h : PlainV v) : Cell v := by cases v <;> first | exact h.elim | rfl
abbrev LRows := List (Nat × List Value)
noncomputable def startR : LRows → H3 → (H3 → A) → A
  | [], h, k => k h
  | r :: l, h, k => ifA (Nat.beq r.2.length MAPZ) .no (lay3 (chain r.2) ce3 0 fun cs _ => hupd h r.1 (fun _ f => f (bkB cs r.2.length)) fun h => startR l h k)
noncomputable def heapR : LRows → HT → HT
  | [], h => h
  | r :: l, h => heapR l (hst h (.bk (lay (chain r.2) ce 0) r.2.length) r.1)
theorem startR_ok : ∀ {l : LRows} {h3 : H3} {h : HT} {k : H3 → A}, HRel h3 h → Good (startR l h3 k) → ∃ h3', HRel h3' (heapR l h) ∧ Good (k h3')
  | [], _, _, _, r, e => ⟨_, r, e⟩
  | q :: l, h3, h, k, r, e => by
    rcases ifA_ok e with ⟨_, e⟩ | ⟨hz, e⟩
    · exact Good.no e
    have hmz : q.2.length ≠ MAPZ := fun p => by rw [p] at hz; exact absurd hz (by decide)
    obtain ⟨_, _, c3, rc, h1⟩ := lay3_ok ce3_ok e
    obtain ⟨_, b3, g, _, h2, h4⟩ := hupd_ok r h1
    obtain ⟨h5, r5, e5⟩ := h4 (bkB c3 q.2.length) (.bk (lay (chain q.2) ce 0) q.2.length) (.inl ⟨hmz, c3, rfl, rc⟩) h2
    exact startR_ok (l := l) r5 e5
theorem heapR_at : ∀ {l : LRows} {h : HT} {b : Nat} {c : CT} {z : Nat}, hg (heapR l h) b = .bk c z → hg h b = .bk c z ∨ ∃ r ∈ l, b = r.1 ∧ c = lay (chain r.2) ce 0 ∧ z = r.2.length
  | [], _, _, _, _, e => .inl e
  | q :: l, h, b, c, z, e => by
    rcases heapR_at (l := l) e with h1 | ⟨r, h1, h2⟩
    · rcases hg_hst h (.bk (lay (chain q.2) ce 0) q.2.length) q.1 b with ⟨h2, h3 | h3⟩ | ⟨_, h3⟩
      · rw [h3] at h1; cases h1; exact .inr ⟨q, List.mem_cons_self, h2, rfl, rfl⟩
      · rw [h3] at h1; cases h1
      · rw [h3] at h1; exact .inl h1
    · exact .inr ⟨r, List.mem_cons_of_mem _ h1, h2⟩
/-- the rows lie in their variables -/
def RowsAt (l : LRows) (w : World) : Prop := ∀ r ∈ l, ∃ C el fr, w.heap[r.1]? = some (.cells C el fr) ∧ ∀ (j : Nat) (v : Value), r.2[j]? = some v → C[j]? = some v
def sizeAt (w : World) (b : Nat) : Nat := match w.heap[b]? with | some (.cells C _ _) => C.size | _ => 0
def mR (w : World) : Mp := fun b => if b < 100 then some (b, 0, sizeAt w b) else none
def rowsB (l : LRows) : Bool := l.all fun r => Nat.blt r.1 97 && (r.2.all (fun v => match v with | .int _ _ => true | .bool _ => true | _ => false) && !Nat.beq r.2.length MAPZ)
theorem simR {l : LRows} {w : World} (hb : rowsB l = true) (hK : RowsAt l w) : Sim P ρ (mR w) 100 (heapR l he) w := by
  have hr : ∀ r ∈ l, r.1 < 97 ∧ (∀ v ∈ r.2, PlainV v) ∧ r.2.length ≠ MAPZ := fun r hr => by
    have := List.all_eq_true.1 hb r hr
    simp only [Bool.and_eq_true, Nat.blt_eq, List.all_eq_true] at this
    refine ⟨this.1, fun v hv => ?_, fun q => by have h := this.2.2; rw [q] at h; exact absurd h (by decide)⟩
    have h1 := this.2.1 v hv
    cases v <;> first | trivial | cases h1
  have hid : ∀ b B O Z, mR w b = some (B, O, Z) → B = b := fun b B O Z e => by
    unfold mR at e
    split at e
    · cases e; rfl
    · cases e
  refine ⟨fun b c z e => ?_, fun b b' c z c' z' B O Z O' Z' _ _ e3 e4 => .inl ((hid _ _ _ _ e3).symm.trans (hid _ _ _ _ e4))⟩
  rcases heapR_at e with h1 | ⟨r, h1, rfl, rfl, rfl⟩
  · rw [hg_he] at h1; cases h1
  · obtain ⟨h2, h3, h4⟩ := hr r h1
    obtain ⟨C, el, fr, hB, hv⟩ := hK r h1
    have hkn := knows_lay (ρ := ρ) (m := mR w) (C := C) (O := 0) (chain_len r.2) (chain_is h3) (fun v hv => plain_cell (h3 v hv)) (fun k u hk => by rw [Nat.zero_add]; exact hv k u hk)
    refine ⟨r.1, 0, sizeAt w r.1, by unfold mR; rw [if_pos (by omega)], .inl ⟨h4, C, el, fr, hB, by unfold sizeAt; rw [hB], fun hg => by omega, hkn.1, hkn.2⟩⟩
/-- a law over variables that are laid -/
theorem law_rows {ys : Ys} {fs : Nat → Option RF} {orc : Nat → RV → Option RV} (hy : YsOk ρ ys) (hfs : ∀ f r, fs f = some r → compF P f = some r) (ho : OrcOk P ρ orc) {kc : Kc} (hk : KcOk P ρ kc) (hgl : P.globals.size ≤ 100) (hex : ∀ k, ¬ 0 < ρ (1000000 + k)) {l : LRows} (hb : rowsB l = true) {w : World} (hK : RowsAt l w) {deep f : Nat} {c : RV}
    (e : startR l he3 (fun h => call3 ys 100 fs orc kc deep f c h 100 isT) = .yes) {vs : List Value} (hd : ∀ m, denC ρ m c vs) (hf : f < 16777216 := by decide) : Calls P f vs.toArray w fun e w' => e = .returned (.bool true) ∧ Old w w' := by
  obtain ⟨h3, hH, h1⟩ := startR_ok he3_ok (show Good (startR l he3 (fun h => call3 ys 100 fs orc kc deep f c h 100 isT)) from e)
  refine law_laid hy hfs ho hk (n := 100) (g := 100) (Nat.le_refl _) (fun b c z hb0 => ?_) (simR hb hK) (fun b hb0 => ⟨sizeAt w b, by unfold mR; rw [if_pos (by omega)], fun q => absurd q (hex b)⟩) (fun b hb0 => by unfold mR; rw [if_neg (by omega)]) (quick hH h1) (hd _) hf
  rcases heapR_at hb0 with h2 | ⟨r, h2, rfl, _⟩
  · rw [hg_he] at h2; cases h2
  · have := List.all_eq_true.1 hb r h2
    simp only [Bool.and_eq_true, Nat.blt_eq] at this
    exact Nat.lt_trans this.1 (by decide)
end Go.Rn
