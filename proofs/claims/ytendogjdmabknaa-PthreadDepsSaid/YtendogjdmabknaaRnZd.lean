/-
  One text of a symbolic evaluator over the model, shown sound once for every program: no statement is claimed here.
-/
import Derived.Test.YtendogjdmabknaaRnZc
namespace Go.Rn
variable {ρ : Nat → Int} {P : Program}
/-- numbers reduced: which letter, by what, to what -/
noncomputable def look (x b : Nat) : List (Nat × Nat × Nat) → Option RV
  | [] => none
  | e :: l => if Nat.beq e.1 x && (Nat.beq e.2.1 b && Nat.blt 0 b) then some (.i .i64 (.ofNat e.2.2)) else look x b l
noncomputable def placeC (tab : List (Nat × Nat × Nat)) (c : RV) : Option RV :=
  gN none c none fun x r => match x with
    | .y .i64 (.v x) => gN none r none fun y q => match y with
      | .i .i64 (.ofNat b) => gN none q (look x b tab) fun _ _ => none
      | _ => none
    | _ => none
noncomputable def placeO (pf : Nat) (tab : List (Nat × Nat × Nat)) (f : Nat) (c : RV) : Option RV := bf (Nat.beq f pf) (placeC tab c) none
/-- a call without arguments, its result known -/
noncomputable def constO (pf : Nat) (f : Nat) (c : RV) : Option RV := bf (Nat.beq f pf) (gN none c (some (.b true)) fun _ _ => none) none
noncomputable def orO (a b : Nat → RV → Option RV) (f : Nat) (c : RV) : Option RV := gO (b f c) (a f c) some
theorem look_ok {x b : Nat} {v : RV} : ∀ {tab : List (Nat × Nat × Nat)}, look x b tab = some v → ∃ r, (x, b, r) ∈ tab ∧ 0 < b ∧ v = .i .i64 (.ofNat r)
  | [], h => by cases h
  | e :: l, h => by
    unfold look at h
    split at h
    · rename_i hc
      simp only [Bool.and_eq_true] at hc
      cases h
      refine ⟨e.2.2, ?_, by have := hc.2.2; simp [Nat.blt] at this; omega, rfl⟩
      rw [← beq_ok hc.1, ← beq_ok hc.2.1]
      exact List.mem_cons_self
    · obtain ⟨r, h1, h2⟩ := look_ok h
      exact ⟨r, List.mem_cons_of_mem _ h1, h2⟩
theorem place_ok {pf : Nat} {tab : List (Nat × Nat × Nat)} (hk : known P pf = true) (hp : ∀ (n : Int) (k : Nat) (w : World), 0 < k → k ≤ 1000000 → Calls P pf #[.int .i64 n, .int .i64 k] w fun e w' => e = .returned (.int .i64 (n % k)) ∧ w = w')
    (ht : ∀ e ∈ tab, 0 < e.2.1 → e.2.1 ≤ 1000000 ∧ ρ e.1 % (e.2.1 : Int) = e.2.2) : OrcOk P ρ (placeO pf tab) := by
  intro f c v h
  unfold placeO at h
  obtain ⟨h1, h2⟩ := bf_ok h (by simp)
  have hf := beq_ok h1
  subst hf
  refine ⟨hk, fun m w vs hd => ?_⟩
  unfold placeC at h2
  rcases gN_ok h2 (by simp) with ⟨_, h3⟩ | ⟨x, r, rfl, h3⟩
  · cases h3
  split at h3
  · rename_i x
    rcases gN_ok h3 (by simp) with ⟨_, h4⟩ | ⟨y, q, rfl, h4⟩
    · cases h4
    split at h4
    · rename_i b
      rcases gN_ok h4 (by simp) with ⟨rfl, h5⟩ | ⟨_, _, _, h5⟩
      · obtain ⟨r, h6, h7, rfl⟩ := look_ok h5
        obtain ⟨h8, h9⟩ := ht _ h6 h7
        obtain ⟨u, us, rfl, q1, q2⟩ := denC_cons.1 hd
        obtain ⟨u2, us2, rfl, q3, q4⟩ := denC_cons.1 q2
        have := denC_nil.1 q4
        subst this
        have e1 : u = .int .i64 (ρ x) := q1
        have e2 : u2 = .int .i64 (Int.ofNat b) := q3
        subst e1 e2
        refine (hp (ρ x) b w h7 h8).mono ?_
        rintro e w' ⟨rfl, rfl⟩
        exact ⟨_, rfl, Old.refl _, by show Value.int .i64 (ρ x % b) = .int .i64 (Int.ofNat r); rw [h9]; rfl⟩
      · cases h5
    · cases h4
  · cases h3
theorem const_ok {pf : Nat} (hk : known P pf = true) (hp : ∀ w : World, Calls P pf #[] w fun e w' => e = .returned (.bool true) ∧ Old w w') : OrcOk P ρ (constO pf) := by
  intro f c v h
  unfold constO at h
  obtain ⟨h1, h2⟩ := bf_ok h (by simp)
  have hf := beq_ok h1
  subst hf
  refine ⟨hk, fun m w vs hd => ?_⟩
  rcases gN_ok h2 (by simp) with ⟨rfl, h3⟩ | ⟨x, r, rfl, h3⟩
  · cases h3
    have := denC_nil.1 hd
    subst this
    refine (hp w).mono ?_
    rintro e w' ⟨rfl, o⟩
    exact ⟨_, rfl, o, rfl⟩
  · cases h3
theorem or_ok {a b : Nat → RV → Option RV} (ha : OrcOk P ρ a) (hb : OrcOk P ρ b) : OrcOk P ρ (orO a b) := by
  intro f c v h
  unfold orO at h
  rcases gO_or h with ⟨y, h1, h2⟩ | ⟨_, h2⟩
  · cases h2; exact ha f c _ h1
  · exact hb f c v h2
theorem none_ok : OrcOk P ρ (fun _ _ => none) := fun _ _ _ h => by cases h
theorem place_neg (n : Int) (k : Nat) (hk : 0 < k) (h : n.tmod k < 0) : n.tmod k + k = n % k := by
  have := Int.tmod_eq_emod (a := n) (b := k)
  have h1 := Int.emod_nonneg n (show (k : Int) ≠ 0 by omega)
  split at this <;> omega
theorem place_pos (n : Int) (k : Nat) (hk : 0 < k) (h : ¬ n.tmod k < 0) : n.tmod k = n % k := by
  have := Int.tmod_eq_emod (a := n) (b := k)
  have h1 := Int.emod_lt_of_pos n (show (0 : Int) < k by omega)
  split at this <;> omega
end Go.Rn
