/-
  One text of a symbolic evaluator over the model, shown sound once for every program: no statement is claimed here.
-/
import Derived.Test.YtendogjdmabknaaRqL
import Derived.IntWalk
namespace Go.Rn
/-! what is known of letters: between which numbers they lie -/
def okZ (l : Int) (h : Int) : Option (Int × Int) := if -9223372036854775808 ≤ l ∧ h ≤ 9223372036854775807 then some (l, h) else none
def ivl (rng : List (Nat × Int × Int)) : SE → Option (Int × Int)
  | .v n => (rng.find? fun e => Nat.beq e.1 n).map fun e => e.2
  | .c z => some (z, z)
  | .add .i64 a b => match ivl rng a, ivl rng b with | some x, some y => okZ (x.1 + y.1) (x.2 + y.2) | _, _ => none
  | .sub .i64 a b => match ivl rng a, ivl rng b with | some x, some y => okZ (x.1 - y.2) (x.2 - y.1) | _, _ => none
  | .mul .i64 a b => match ivl rng a, ivl rng b with | some x, some y => if 0 ≤ x.1 ∧ 0 ≤ y.1 then okZ (x.1 * y.1) (x.2 * y.2) else none | _, _ => none
  | _ => none
def decZ (op : BinOp) (x y : Int × Int) : Option Bool := match op with
  | .lss => if x.2 < y.1 then some true else if y.2 ≤ x.1 then some false else none
  | .leq => if x.2 ≤ y.1 then some true else if y.2 < x.1 then some false else none
  | .gtr => if y.2 < x.1 then some true else if x.2 ≤ y.1 then some false else none
  | .geq => if y.2 ≤ x.1 then some true else if x.2 < y.1 then some false else none
  | .eql => if x.2 < y.1 ∨ y.2 < x.1 then some false else none
  | .neq => if x.2 < y.1 ∨ y.2 < x.1 then some true else none
  | _ => none
def ysR (rng : List (Nat × Int × Int)) : Ys := fun op a b => match ivl rng a, ivl rng b with | some x, some y => decZ op x y | _, _ => none
theorem okZ_ok {l h : Int} {p : Int × Int} (e : okZ l h = some p) : p = (l, h) ∧ -9223372036854775808 ≤ l ∧ h ≤ 9223372036854775807 := by
  unfold okZ at e
  split at e
  · rename_i hc; cases e; exact ⟨rfl, hc⟩
  · cases e
theorem ivl_ok {ρ : Nat → Int} {rng : List (Nat × Int × Int)} (hr : ∀ e ∈ rng, e.2.1 ≤ ρ e.1 ∧ ρ e.1 ≤ e.2.2) : ∀ (a : SE) (p : Int × Int), ivl rng a = some p → p.1 ≤ a.val ρ ∧ a.val ρ ≤ p.2 := by
  intro a
  induction a with
  | v n =>
    intro p e
    obtain ⟨q, h1, rfl⟩ := Option.map_eq_some_iff.1 e
    have h2 := List.find?_some h1
    have h3 := List.mem_of_find?_eq_some h1
    have h4 : q.1 = n := Nat.eq_of_beq_eq_true h2
    have := hr q h3
    rw [h4] at this
    exact this
  | c z => intro p e; cases e; exact ⟨Int.le_refl _, Int.le_refl _⟩
  | add k a b iha ihb =>
    intro p e
    cases k <;> first | (cases e; done) | skip
    simp only [ivl] at e
    split at e
    · rename_i x y hx hy
      obtain ⟨rfl, h1, h2⟩ := okZ_ok e
      have ha := iha _ hx
      have hb := ihb _ hy
      have e2 : (SE.add .i64 a b).val ρ = IntKind.i64.wrap (a.val ρ + b.val ρ) := rfl
      rw [e2, IntWalk.i64_in _ (by omega)]
      exact ⟨by show x.1 + y.1 ≤ _; omega, by show _ ≤ x.2 + y.2; omega⟩
    · cases e
  | sub k a b iha ihb =>
    intro p e
    cases k <;> first | (cases e; done) | skip
    simp only [ivl] at e
    split at e
    · rename_i x y hx hy
      obtain ⟨rfl, h1, h2⟩ := okZ_ok e
      have ha := iha _ hx
      have hb := ihb _ hy
      have e2 : (SE.sub .i64 a b).val ρ = IntKind.i64.wrap (a.val ρ - b.val ρ) := rfl
      rw [e2, IntWalk.i64_in _ (by omega)]
      exact ⟨by show x.1 - y.2 ≤ _; omega, by show _ ≤ x.2 - y.1; omega⟩
    · cases e
  | mul k a b iha ihb =>
    intro p e
    cases k <;> first | (cases e; done) | skip
    simp only [ivl] at e
    split at e
    · rename_i x y hx hy
      split at e
      · rename_i hc
        obtain ⟨rfl, h1, h2⟩ := okZ_ok e
        have ha := iha _ hx
        have hb := ihb _ hy
        have h3 : x.1 * y.1 ≤ a.val ρ * b.val ρ := Int.mul_le_mul ha.1 hb.1 hc.2 (by omega)
        have h4 : a.val ρ * b.val ρ ≤ x.2 * y.2 := Int.mul_le_mul ha.2 hb.2 (by omega) (by omega)
        have e2 : (SE.mul .i64 a b).val ρ = IntKind.i64.wrap (a.val ρ * b.val ρ) := rfl
        rw [e2, IntWalk.i64_in _ (by omega)]
        exact ⟨h3, h4⟩
      · cases e
    · cases e
theorem ysR_ok {ρ : Nat → Int} {rng : List (Nat × Int × Int)} (hr : ∀ e ∈ rng, e.2.1 ≤ ρ e.1 ∧ ρ e.1 ≤ e.2.2) : YsOk ρ (ysR rng) := by
  intro op a b r e
  unfold ysR at e
  split at e
  · rename_i x y hx hy
    refine .inl ?_
    have ha := ivl_ok hr a x hx
    have hb := ivl_ok hr b y hy
    unfold decZ at e
    split at e <;> (try (cases e; done)) <;> (repeat' (split at e)) <;> (try (cases e; done)) <;> cases e <;> simp only [cmpZ, Option.some.injEq, decide_eq_true_eq, decide_eq_false_iff_not] <;> first | omega | (simp; omega)
  · cases e
/-- numbers reduced, the result a letter -/
noncomputable def lookY (x b : Nat) : List (Nat × Nat × Nat) → Option RV
  | [] => none
  | e :: l => if Nat.beq e.1 x && (Nat.beq e.2.1 b && Nat.blt 0 b) then some (.y .i64 (.v e.2.2)) else lookY x b l
noncomputable def placeCY (tab : List (Nat × Nat × Nat)) (c : RV) : Option RV :=
  gN none c none fun x r => match x with
    | .y .i64 (.v x) => gN none r none fun y q => match y with
      | .i .i64 (.ofNat b) => gN none q (lookY x b tab) fun _ _ => none
      | _ => none
    | _ => none
noncomputable def placeY (pf : Nat) (tab : List (Nat × Nat × Nat)) (f : Nat) (c : RV) : Option RV := bf (Nat.beq f pf) (placeCY tab c) none
theorem lookY_ok {x b : Nat} {v : RV} : ∀ {tab : List (Nat × Nat × Nat)}, lookY x b tab = some v → ∃ r, (x, b, r) ∈ tab ∧ 0 < b ∧ v = .y .i64 (.v r)
  | [], h => by cases h
  | e :: l, h => by
    unfold lookY at h
    split at h
    · rename_i hc
      simp only [Bool.and_eq_true] at hc
      cases h
      refine ⟨e.2.2, ?_, by have := hc.2.2; simp [Nat.blt] at this; omega, rfl⟩
      rw [← beq_ok hc.1, ← beq_ok hc.2.1]
      exact List.mem_cons_self
    · obtain ⟨r, h1, h2⟩ := lookY_ok h
      exact ⟨r, List.mem_cons_of_mem _ h1, h2⟩
theorem placeY_ok {ρ : Nat → Int} {P : Program} {pf : Nat} {tab : List (Nat × Nat × Nat)} (hk : known P pf = true) (hp : ∀ (n : Int) (k : Nat) (w : World), 0 < k → k ≤ 1000000 → Calls P pf #[.int .i64 n, .int .i64 k] w fun e w' => e = .returned (.int .i64 (n % k)) ∧ w = w')
    (ht : ∀ e ∈ tab, 0 < e.2.1 → e.2.1 ≤ 1000000 ∧ ρ e.1 % (e.2.1 : Int) = ρ e.2.2) : OrcOk P ρ (placeY pf tab) := by
  intro f c v h
  unfold placeY at h
  obtain ⟨h1, h2⟩ := bf_ok h (by simp)
  have hf := beq_ok h1
  subst hf
  refine ⟨hk, fun m w vs hd => ?_⟩
  unfold placeCY at h2
  rcases gN_ok h2 (by simp) with ⟨_, h3⟩ | ⟨x, r, rfl, h3⟩
  · cases h3
  split at h3
  · rename_i x
    rcases gN_ok h3 (by simp) with ⟨_, h4⟩ | ⟨y, q, rfl, h4⟩
    · cases h4
    split at h4
    · rename_i b
      rcases gN_ok h4 (by simp) with ⟨rfl, h5⟩ | ⟨_, _, _, h5⟩
      · obtain ⟨r, h6, h7, rfl⟩ := lookY_ok h5
        obtain ⟨h8, h9⟩ := ht _ h6 h7
        obtain ⟨u, us, rfl, q1, q2⟩ := denC_cons.1 hd
        obtain ⟨u2, us2, rfl, q3, q4⟩ := denC_cons.1 q2
        have := denC_nil.1 q4
        subst this
        have e1 : u = .int .i64 (ρ x) := q1
        have e2 : u2 = .int .i64 (Int.ofNat b) := q3
        subst e1 e2
        refine (hp (ρ x) b w h7 h8).mono ?_
        rintro e w' ⟨rfl, rfl⟩
        exact ⟨_, rfl, Old.refl _, by show Value.int .i64 (ρ x % b) = .int .i64 (ρ r); rw [h9]⟩
      · cases h5
    · cases h4
  · cases h3
/-- of a letter this alone is known: whether it is other than 0 -/
def ysV (n : Nat) (z : Bool) : Ys := fun op a b => match op, a, b with
  | .eql, .v x, .c y => if x = n ∧ y = 0 then some (!z) else none
  | .neq, .v x, .c y => if x = n ∧ y = 0 then some z else none
  | _, _, _ => none
theorem ysV_ok {ρ : Nat → Int} {n : Nat} : YsOk ρ (ysV n (decide (ρ n ≠ 0))) := by
  intro op a b r e
  unfold ysV at e
  split at e
  · split at e
    · rename_i h; obtain ⟨rfl, rfl⟩ := h
      cases e
      rename_i x
      refine .inl ?_
      by_cases h : ρ x = 0 <;> simp [cmpZ, SE.val, h]
    · cases e
  · split at e
    · rename_i h; obtain ⟨rfl, rfl⟩ := h
      cases e
      rename_i x
      refine .inl ?_
      by_cases h : ρ x = 0 <;> simp [cmpZ, SE.val, h]
    · cases e
  · cases e
/-- of a letter this alone is known: whether it is odd -/
def ysB (n : Nat) (z : Bool) : Ys := fun op a b => match op, a, b with
  | .and, .v x, .c y => if x = n ∧ y = 1 then some z else none
  | _, _, _ => none
theorem ysB_ok {ρ : Nat → Int} {n : Nat} : YsOk ρ (ysB n (decide (ρ n % 2 = 1))) := by
  intro op a b r e
  unfold ysB at e
  split at e
  · split at e
    · rename_i h; obtain ⟨rfl, rfl⟩ := h
      cases e
      exact .inr ⟨rfl, rfl, rfl⟩
    · cases e
  · cases e
end Go.Rn
