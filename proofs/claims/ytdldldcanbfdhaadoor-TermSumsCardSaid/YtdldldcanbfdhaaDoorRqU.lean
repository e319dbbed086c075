/-
  One text of a symbolic evaluator over the model, shown sound once for every program: no statement is claimed here.
-/
import Derived.Test.YtdldldcanbfdhaaDoorRqT
namespace Go.Rn
variable {ρ : Nat → Int} {P : Program}
/-! letters in range: what is less 0 is what it was -/
noncomputable def isZ (e : SE) : Bool := @SE.rec (fun _ => Bool) (fun _ => false) (fun z => eqI z 0) (fun _ _ _ _ _ => false) (fun _ _ _ _ _ => false) (fun _ _ _ _ _ => false) e
noncomputable def okL (e : SE) : Bool := @SE.rec (fun _ => Bool) (fun _ => true) (fun _ => false) (fun k _ _ _ _ => eqK k .i64) (fun k _ _ _ _ => eqK k .i64) (fun k _ _ _ _ => eqK k .i64) e
noncomputable def nrm (e : SE) : SE := @SE.rec (fun _ => SE) (fun n => .v n) (fun z => .c z) (fun k _ _ f g => .add k f g) (fun k a b f g => bf (bf (eqK k .i64) (bf (isZ b) (okL a) false) false) f (.sub k f g)) (fun k _ _ f g => .mul k f g) e
/-- two sums alike but for what is taken from them and is 0 -/
noncomputable def ysZ : Ys := fun op a b => match op with
  | .eql => if eqS (nrm a) (nrm b) = true then some true else none
  | .neq => if eqS (nrm a) (nrm b) = true then some false else none
  | _ => none
theorem isZ_ok {e : SE} (h : isZ e = true) : e = .c 0 := by
  cases e with
  | c z => have : eqI z 0 = true := h
           rw [eqI_eq] at this
           rw [eq_of_beq this]
  | _ => cases h
theorem wrap_twice (z : Int) : IntKind.i64.wrap (IntKind.i64.wrap z) = IntKind.i64.wrap z := by
  simp only [IntKind.wrap_i64]; omega
theorem okL_ok (hv : ∀ n, IntKind.i64.wrap (ρ n) = ρ n) {e : SE} (h : okL e = true) : IntKind.i64.wrap (e.val ρ) = e.val ρ := by
  cases e with
  | v n => exact hv n
  | c z => cases h
  | add k a b => have h : eqK k .i64 = true := h
                 rw [eqK_ok h]; exact wrap_twice _
  | sub k a b => have h : eqK k .i64 = true := h
                 rw [eqK_ok h]; exact wrap_twice _
  | mul k a b => have h : eqK k .i64 = true := h
                 rw [eqK_ok h]; exact wrap_twice _
theorem nrm_val (hv : ∀ n, IntKind.i64.wrap (ρ n) = ρ n) : ∀ e : SE, (nrm e).val ρ = e.val ρ := by
  intro e
  induction e with
  | v n => rfl
  | c z => rfl
  | add k a b ha hb => show k.wrap ((nrm a).val ρ + (nrm b).val ρ) = k.wrap (a.val ρ + b.val ρ); rw [ha, hb]
  | mul k a b ha hb => show k.wrap ((nrm a).val ρ * (nrm b).val ρ) = k.wrap (a.val ρ * b.val ρ); rw [ha, hb]
  | sub k a b ha hb =>
    show (bf (bf (eqK k .i64) (bf (isZ b) (okL a) false) false) (nrm a) (.sub k (nrm a) (nrm b))).val ρ = k.wrap (a.val ρ - b.val ρ)
    cases hc : bf (eqK k .i64) (bf (isZ b) (okL a) false) false with
    | true =>
      obtain ⟨h0, h12⟩ := bf_ok hc (by simp)
      obtain ⟨h1, h2⟩ := bf_ok h12 (by simp)
      show (nrm a).val ρ = _
      rw [ha, isZ_ok h1, eqK_ok h0]
      show a.val ρ = IntKind.i64.wrap (a.val ρ - 0)
      rw [Int.sub_zero, okL_ok hv h2]
    | false => show k.wrap ((nrm a).val ρ - (nrm b).val ρ) = k.wrap (a.val ρ - b.val ρ); rw [ha, hb]
theorem ysZ_ok (hv : ∀ n, IntKind.i64.wrap (ρ n) = ρ n) : YsOk ρ ysZ := by
  intro op a b r e
  unfold ysZ at e
  have key : eqS (nrm a) (nrm b) = true → a.val ρ = b.val ρ := fun h => by
    rw [← nrm_val hv a, ← nrm_val hv b, eqS_ok _ _ h]
  split at e
  · split at e
    · rename_i h
      cases e
      refine .inl ?_
      rw [key h]
      simp [cmpZ]
    · cases e
  · split at e
    · rename_i h
      cases e
      refine .inl ?_
      rw [key h]
      simp [cmpZ]
    · cases e
  · cases e
end Go.Rn
