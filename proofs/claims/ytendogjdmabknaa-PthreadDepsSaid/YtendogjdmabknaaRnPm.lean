/-
  One text of a symbolic evaluator over the model, shown sound once for every program: no statement is claimed here.
-/
import Derived.Test.YtendogjdmabknaaRnP
import Derived.MapKept
namespace Go.Rn
variable {ρ : Nat → Int} {m m' : Mp} {P : Program}
variable {g fl n n' nt lim : Nat} {h h' : HT} {t : FT} {a : Act} {o : Oper} {w : World} {v : RV} {ys : Ys} {cl : Cl'}
section
variable {α : Type} {d x : α}
theorem gM_ok {v : RV} {k : Nat → α} (h : gM d v k = x) (hd : d ≠ x) : ∃ b, v = .mp b ∧ k b = x := by
  cases v <;> first | exact absurd h hd | exact ⟨_, rfl, h⟩
theorem gMK_ok {v : RB} {k : CT → α} (h : gMK d v k = x) (hd : d ≠ x) : ∃ c, v = .bk c MAPZ ∧ k c = x := by
  cases v with
  | no => exact absurd h hd
  | bk c z =>
    have h1 : bf (Nat.beq z MAPZ) (k c) d = x := h
    cases hz : Nat.beq z MAPZ with
    | true =>
      rw [hz] at h1
      have := Nat.eq_of_beq_eq_true hz
      subst this
      exact ⟨c, rfl, h1⟩
    | false => rw [hz] at h1; exact absurd h1 hd
end
theorem kOf_b {r : RV} (hk : kOf r = 1) : ∃ b, r = .b b := by
  cases r <;> first | exact ⟨_, rfl⟩ | cases hk; done | (rename_i j z; exfalso; revert hk; cases j <;> intro hk <;> cases hk)
theorem kOf_s {r : RV} (hk : kOf r = 2) : ∃ l, r = .s l := by
  cases r <;> first | exact ⟨_, rfl⟩ | cases hk; done | (rename_i j z; exfalso; revert hk; cases j <;> intro hk <;> cases hk)
theorem kOf_i {r : RV} {k : IntKind} (hk : kOf r = kNum k) : ∃ z, r = .i k z := by
  cases r <;> first | (exfalso; revert hk; cases k <;> intro hk <;> cases hk; done) | (rename_i j z; revert hk; cases k <;> cases j <;> intro hk <;> first | exact ⟨_, rfl⟩ | cases hk)
/-- a key and what it stands for -/
theorem kOf_key {d : TypeDesc} {q : Nat} {r : RV} {u : Value} (hq : keyOf d = some q) (hk : kOf r = q) (hd : den ρ m r u) : MapKept.IsKey d u := by
  cases d <;> simp only [keyOf, Option.some.injEq, reduceCtorEq] at hq
  · subst hq; obtain ⟨b, rfl⟩ := kOf_b hk; cases hd; trivial
  · subst hq; obtain ⟨z, rfl⟩ := kOf_i hk; cases hd; rfl
  · subst hq; obtain ⟨l, rfl⟩ := kOf_s hk; obtain ⟨rfl, _⟩ := hd; trivial
theorem bytes_inj {a b : List Nat} (ha : ∀ x ∈ a, x < 256) (hb : ∀ x ∈ b, x < 256) (e : a.map UInt8.ofNat = b.map UInt8.ofNat) : a = b := by
  induction a generalizing b with
  | nil => cases b with
    | nil => rfl
    | cons y r => cases e
  | cons x l ih => cases b with
    | nil => cases e
    | cons y r =>
      simp only [List.map_cons, List.cons.injEq] at e
      have hx := ha x (.head _)
      have hy := hb y (.head _)
      have h1 : x = y := by
        have := congrArg UInt8.toNat e.1
        simpa [Nat.mod_eq_of_lt hx, Nat.mod_eq_of_lt hy] using this
      rw [h1, ih (fun z hz => ha z (.tail _ hz)) (fun z hz => hb z (.tail _ hz)) e.2]
theorem kEq_ok {d : TypeDesc} {q : Nat} {r r' : RV} {u u' : Value} (hq : keyOf d = some q) (hk : kOf r = q) (hk' : kOf r' = q) (hd : den ρ m r u) (hd' : den ρ m r' u') : kEq r r' = true ↔ u = u' := by
  cases d <;> simp only [keyOf, Option.some.injEq, reduceCtorEq] at hq
  · subst hq
    obtain ⟨b, rfl⟩ := kOf_b hk; obtain ⟨b', rfl⟩ := kOf_b hk'; cases hd; cases hd'
    cases b <;> cases b' <;> simp [kEq, gB, eqB, bf, notB]
  · subst hq
    obtain ⟨z, rfl⟩ := kOf_i hk; obtain ⟨z', rfl⟩ := kOf_i hk'; cases hd; cases hd'
    show eqI z z' = true ↔ _
    rw [eqI_eq]; simp
  · subst hq
    obtain ⟨l, rfl⟩ := kOf_s hk; obtain ⟨l', rfl⟩ := kOf_s hk'; obtain ⟨rfl, h1⟩ := hd; obtain ⟨rfl, h2⟩ := hd'
    show eqL l l' = true ↔ _
    rw [eqL_ok]
    constructor
    · intro h; have : l = l' := by simpa using h
      rw [this]
    · intro h
      have e : l.map UInt8.ofNat = l'.map UInt8.ofNat := by simpa using h
      simp [bytes_inj h1 h2 e]
/-- the search -/
theorem mFind_ok {d : TypeDesc} {q : Nat} {r : RV} {u : Value} {c : CT} {es : List MapEntry} (hq : keyOf d = some q) (hk : kOf r = q) (hd : den ρ m r u)
    (hes : ∀ i e, es[i]? = some e → den ρ m (cg c (1 + 2 * i)) e.key) : ∀ (s i : Nat) (x : Option Nat), i + s = es.length → mFind q c r s i = some x →
    (x = none ∧ Instr.findNow d u (es.drop i) i = some none) ∨ ∃ j e, x = some j ∧ es[j]? = some e ∧ e.key = u ∧ Instr.findNow d u (es.drop i) i = some (some (j, e.val))
  | 0, i, x, hl, h => by
    have h' : some none = some x := h
    cases h'
    rw [List.drop_eq_nil_of_le (by omega)]
    exact .inl ⟨rfl, rfl⟩
  | s + 1, i, x, hl, h => by
    have hlt : i < es.length := by omega
    have he : es[i]? = some es[i] := List.getElem?_eq_getElem hlt
    have h' : bf (Nat.beq (kOf (cg c (1 + 2 * i))) q) (bf (kEq r (cg c (1 + 2 * i))) (some (some i)) (mFind q c r s (i + 1))) none = some x := h
    rw [bf_eq, bf_eq] at h'
    split at h'
    · rename_i h1
      have h1 := Nat.eq_of_beq_eq_true h1
      have hde := hes i _ he
      have hiff := kEq_ok hq hk h1 hd hde
      obtain ⟨b, hb, hbi⟩ := MapKept.sameNow_of_keys (kOf_key hq hk hd) (kOf_key hq h1 hde)
      rw [List.drop_eq_getElem_cons hlt]
      split at h'
      · rename_i h2
        cases h'
        have : u = es[i].key := hiff.1 h2
        have hbt : b = true := hbi.2 this
        subst hbt
        exact .inr ⟨i, _, rfl, he, this.symm, by simp [Instr.findNow, hb]⟩
      · rename_i h2
        have hbf : b = false := by
          cases b with
          | false => rfl
          | true => exact absurd (hiff.2 (hbi.1 rfl)) h2
        subst hbf
        rcases mFind_ok hq hk hd hes s (i + 1) x (by omega) h' with ⟨h3, h4⟩ | ⟨j, e, h3, h4, h5, h6⟩
        · exact .inl ⟨h3, by simp [Instr.findNow, hb, h4]⟩
        · exact .inr ⟨j, e, h3, h4, h5, by simp [Instr.findNow, hb, h6]⟩
    · cases h'
theorem cg_cst_in (c : CT) (x : RV) (k : Nat) (hk : k < 8388608) : cg (cst c x k) k = x := by
  unfold cg cst
  exact get_set_in _ _ _ _ (Nat.succ_le_succ (Nat.zero_le k)) (Nat.lt_trans (Nat.succ_lt_succ hk) (by decide))
theorem cg_cst_ne (c : CT) (x : RV) {k j : Nat} (h : j ≠ k) : cg (cst c x k) j = cg c j := by
  rcases cg_cst c x k j with ⟨h1, _⟩ | ⟨_, h1⟩
  · exact absurd h1 h
  · exact h1
end Go.Rn
