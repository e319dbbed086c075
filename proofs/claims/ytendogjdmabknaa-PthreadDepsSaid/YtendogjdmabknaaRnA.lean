/-
  One text of a symbolic evaluator over the model, shown sound once for every program: no statement is claimed here.
-/
import Derived.Orders
import Derived.Below
namespace Go.Rn

/-- keys, the least digit first -/
inductive Pa where | z | o (p : Pa) | i (p : Pa)
/-- sums of letters -/
inductive SE where | v (n : Nat) | c (z : Int) | add (k : IntKind) (a b : SE) | sub (k : IntKind) (a b : SE) | mul (k : IntKind) (a b : SE)
/-- values, as the runner has them -/
inductive RV where
  | un | ud | b (x : Bool) | i (k : IntKind) (n : Int) | y (k : IntKind) (e : SE) | s (l : List Nat)
  | np | p (b o : Nat) | ns | sl (b o l c : Nat) | su (b o l e : Nat) | sx (b e : Nat)
  | nf | fn (f : Nat) (c : RV) | nil | cons (h t : RV) | agg (c : RV) | tup (c : RV) | mp (b : Nat)
/-- tries -/
inductive T (α : Type) where | e | n (l : T α) (v : α) (r : T α)
/-- a block: its cells, how many of them are known at most -/
inductive RB where | no | bk (c : T RV) (z : Nat)
noncomputable section
variable {α : Type}
def T.get (d : α) (t : T α) : Nat → α := @T.rec α (fun _ => Nat → α) (fun _ => d)
  (fun _ v _ gl gr k => @Bool.rec (fun _ => α) (@Bool.rec (fun _ => α) (gr (Nat.div k 2)) (gl (Nat.div k 2)) (Nat.beq (Nat.mod k 2) 0)) v (Nat.beq k 1)) t
def T.getP (d : α) (t : T α) : Pa → α := @T.rec α (fun _ => Pa → α) (fun _ => d)
  (fun _ v _ gl gr p => @Pa.rec (fun _ => α) v (fun q _ => gl q) (fun q _ => gr q) p) t
def nodeL (t : T α) (v : α) (r : T α) : T α := @T.rec α (fun _ => T α) (.n .e v r) (fun a b c _ _ => .n (.n a b c) v r) t
def nodeR (l : T α) (v : α) (t : T α) : T α := @T.rec α (fun _ => T α) (.n l v .e) (fun a b c _ _ => .n l v (.n a b c)) t
def T.leaf (d x : α) (fuel : Nat) : Nat → T α := @Nat.rec (fun _ => Nat → T α) (fun _ => .e)
  (fun _ ih k => @Bool.rec (fun _ => T α) (@Bool.rec (fun _ => T α) (nodeR .e d (ih (Nat.div k 2))) (nodeL (ih (Nat.div k 2)) d .e) (Nat.beq (Nat.mod k 2) 0)) (.n .e x .e) (Nat.beq k 1)) fuel
def T.set (d : α) (t : T α) (x : α) : Nat → T α := @T.rec α (fun _ => Nat → T α) (T.leaf d x 24)
  (fun l v r sl sr k => @Bool.rec (fun _ => T α) (@Bool.rec (fun _ => T α) (nodeR l v (sr (Nat.div k 2))) (nodeL (sl (Nat.div k 2)) v r) (Nat.beq (Nat.mod k 2) 0)) (.n l x r) (Nat.beq k 1)) t
def T.leafP (d x : α) (p : Pa) : T α := @Pa.rec (fun _ => T α) (.n .e x .e) (fun _ ih => nodeL ih d .e) (fun _ ih => nodeR .e d ih) p
def T.setP (d : α) (t : T α) (x : α) : Pa → T α := @T.rec α (fun _ => Pa → T α) (T.leafP d x)
  (fun l v r sl sr p => @Pa.rec (fun _ => T α) (.n l x r) (fun q _ => nodeL (sl q) v r) (fun q _ => nodeR l v (sr q)) p) t
def Pa.val (p : Pa) : Nat := @Pa.rec (fun _ => Nat) 1 (fun _ ih => 2 * ih) (fun _ ih => 2 * ih + 1) p

theorem nodeL_eq (t : T α) (v : α) (r : T α) : nodeL t v r = .n t v r := by cases t <;> rfl
theorem nodeR_eq (l : T α) (v : α) (t : T α) : nodeR l v t = .n l v t := by cases t <;> rfl
theorem get_e (d : α) (k : Nat) : T.get d .e k = d := rfl
theorem get_n (d : α) (l : T α) (v : α) (r : T α) (k : Nat) : T.get d (.n l v r) k = if k = 1 then v else if k % 2 = 0 then T.get d l (k / 2) else T.get d r (k / 2) := by
  show @Bool.rec (fun _ => α) (@Bool.rec (fun _ => α) (T.get d r (k / 2)) (T.get d l (k / 2)) (Nat.beq (k % 2) 0)) v (Nat.beq k 1) = _
  cases h : Nat.beq k 1 with
  | true => rw [if_pos (Nat.eq_of_beq_eq_true h)]
  | false =>
    rw [if_neg (Nat.ne_of_beq_eq_false h)]
    cases h2 : Nat.beq (k % 2) 0 with
    | true => rw [if_pos (Nat.eq_of_beq_eq_true h2)]
    | false => rw [if_neg (Nat.ne_of_beq_eq_false h2)]
theorem set_n (d : α) (l : T α) (v : α) (r : T α) (x : α) (k : Nat) : T.set d (.n l v r) x k = if k = 1 then .n l x r else if k % 2 = 0 then .n (T.set d l x (k / 2)) v r else .n l v (T.set d r x (k / 2)) := by
  show @Bool.rec (fun _ => T α) (@Bool.rec (fun _ => T α) (nodeR l v (T.set d r x (k / 2))) (nodeL (T.set d l x (k / 2)) v r) (Nat.beq (k % 2) 0)) (.n l x r) (Nat.beq k 1) = _
  cases h : Nat.beq k 1 with
  | true => rw [if_pos (Nat.eq_of_beq_eq_true h)]
  | false =>
    rw [if_neg (Nat.ne_of_beq_eq_false h)]
    cases h2 : Nat.beq (k % 2) 0 with
    | true => rw [if_pos (Nat.eq_of_beq_eq_true h2)]; exact nodeL_eq _ _ _
    | false => rw [if_neg (Nat.ne_of_beq_eq_false h2)]; exact nodeR_eq _ _ _
theorem leaf_s (d x : α) (f k : Nat) : T.leaf d x (f + 1) k = if k = 1 then .n .e x .e else if k % 2 = 0 then .n (T.leaf d x f (k / 2)) d .e else .n .e d (T.leaf d x f (k / 2)) := by
  show @Bool.rec (fun _ => T α) (@Bool.rec (fun _ => T α) (nodeR .e d (T.leaf d x f (k / 2))) (nodeL (T.leaf d x f (k / 2)) d .e) (Nat.beq (k % 2) 0)) (.n .e x .e) (Nat.beq k 1) = _
  cases h : Nat.beq k 1 with
  | true => rw [if_pos (Nat.eq_of_beq_eq_true h)]
  | false =>
    rw [if_neg (Nat.ne_of_beq_eq_false h)]
    cases h2 : Nat.beq (k % 2) 0 with
    | true => rw [if_pos (Nat.eq_of_beq_eq_true h2)]; exact nodeL_eq _ _ _
    | false => rw [if_neg (Nat.ne_of_beq_eq_false h2)]; exact nodeR_eq _ _ _
theorem get_leaf (d x : α) (f : Nat) : ∀ k j, T.get d (T.leaf d x f k) j = d ∨ (j = k ∧ T.get d (T.leaf d x f k) j = x) := by
  induction f with
  | zero => exact fun k j => .inl rfl
  | succ f ih =>
    intro k j
    rw [leaf_s]
    by_cases h1 : k = 1
    · rw [if_pos h1, get_n]
      by_cases h2 : j = 1
      · rw [if_pos h2]; exact .inr ⟨by omega, rfl⟩
      · rw [if_neg h2]; split <;> exact .inl rfl
    · rw [if_neg h1]
      by_cases h2 : k % 2 = 0
      · rw [if_pos h2, get_n]
        by_cases h3 : j = 1
        · rw [if_pos h3]; exact .inl rfl
        · rw [if_neg h3]
          by_cases h4 : j % 2 = 0
          · rw [if_pos h4]
            rcases ih (k / 2) (j / 2) with h | ⟨h, h'⟩
            · exact .inl h
            · exact .inr ⟨by omega, h'⟩
          · rw [if_neg h4]; exact .inl rfl
      · rw [if_neg h2, get_n]
        by_cases h3 : j = 1
        · rw [if_pos h3]; exact .inl rfl
        · rw [if_neg h3]
          by_cases h4 : j % 2 = 0
          · rw [if_pos h4]; exact .inl rfl
          · rw [if_neg h4]
            rcases ih (k / 2) (j / 2) with h | ⟨h, h'⟩
            · exact .inl h
            · exact .inr ⟨by omega, h'⟩
/-- what a store leaves at any key: at its own key the new value or nothing, elsewhere what was there -/
theorem get_set (d : α) (t : T α) (x : α) : ∀ k j, (j = k ∧ (T.get d (T.set d t x k) j = x ∨ T.get d (T.set d t x k) j = d)) ∨ (j ≠ k ∧ T.get d (T.set d t x k) j = T.get d t j) := by
  induction t with
  | e =>
    intro k j
    show (j = k ∧ (T.get d (T.leaf d x 24 k) j = x ∨ T.get d (T.leaf d x 24 k) j = d)) ∨ (j ≠ k ∧ T.get d (T.leaf d x 24 k) j = d)
    by_cases hj : j = k
    · rcases get_leaf d x 24 k j with h | ⟨_, h⟩
      · exact .inl ⟨hj, .inr h⟩
      · exact .inl ⟨hj, .inl h⟩
    · rcases get_leaf d x 24 k j with h | ⟨h, _⟩
      · exact .inr ⟨hj, h⟩
      · exact absurd h hj
  | n l v r ihl ihr =>
    intro k j
    rw [set_n]
    by_cases h1 : k = 1
    · rw [if_pos h1, get_n, get_n]
      by_cases h2 : j = 1
      · rw [if_pos h2]; exact .inl ⟨by omega, .inl rfl⟩
      · rw [if_neg h2, if_neg h2]; exact .inr ⟨by omega, rfl⟩
    · rw [if_neg h1]
      by_cases h2 : k % 2 = 0
      · rw [if_pos h2, get_n, get_n]
        by_cases h3 : j = 1
        · rw [if_pos h3, if_pos h3]; exact .inr ⟨by omega, rfl⟩
        · rw [if_neg h3, if_neg h3]
          by_cases h4 : j % 2 = 0
          · rw [if_pos h4, if_pos h4]
            rcases ihl (k / 2) (j / 2) with ⟨h, h'⟩ | ⟨h, h'⟩
            · exact .inl ⟨by omega, h'⟩
            · exact .inr ⟨by omega, h'⟩
          · rw [if_neg h4, if_neg h4]; exact .inr ⟨by omega, rfl⟩
      · rw [if_neg h2, get_n, get_n]
        by_cases h3 : j = 1
        · rw [if_pos h3, if_pos h3]; exact .inr ⟨by omega, rfl⟩
        · rw [if_neg h3, if_neg h3]
          by_cases h4 : j % 2 = 0
          · rw [if_pos h4, if_pos h4]; exact .inr ⟨by omega, rfl⟩
          · rw [if_neg h4, if_neg h4]
            rcases ihr (k / 2) (j / 2) with ⟨h, h'⟩ | ⟨h, h'⟩
            · exact .inl ⟨by omega, h'⟩
            · exact .inr ⟨by omega, h'⟩
theorem get_leaf_in (d x : α) : ∀ (f k : Nat), 1 ≤ k → k < 2 ^ f → T.get d (T.leaf d x f k) k = x
  | 0, k, h1, h2 => by have : k < 1 := h2; omega
  | f + 1, k, h1, h2 => by
    rw [leaf_s]
    have h3 : k / 2 < 2 ^ f := by rw [Nat.pow_succ] at h2; omega
    by_cases hk : k = 1
    · rw [if_pos hk, get_n, if_pos hk]
    · rw [if_neg hk]
      by_cases h4 : k % 2 = 0
      · rw [if_pos h4, get_n, if_neg hk, if_pos h4]; exact get_leaf_in d x f (k / 2) (by omega) h3
      · rw [if_neg h4, get_n, if_neg hk, if_neg h4]; exact get_leaf_in d x f (k / 2) (by omega) h3
theorem get_set_in (d : α) (t : T α) (x : α) : ∀ k, 1 ≤ k → k < 2 ^ 24 → T.get d (T.set d t x k) k = x := by
  induction t with
  | e => exact fun k h1 h2 => get_leaf_in d x 24 k h1 h2
  | n l v r ihl ihr =>
    intro k h1 h2
    rw [set_n]
    by_cases hk : k = 1
    · rw [if_pos hk, get_n, if_pos hk]
    · rw [if_neg hk]
      by_cases h4 : k % 2 = 0
      · rw [if_pos h4, get_n, if_neg hk, if_pos h4]; exact ihl (k / 2) (by omega) (by omega)
      · rw [if_neg h4, get_n, if_neg hk, if_neg h4]; exact ihr (k / 2) (by omega) (by omega)
theorem Pa.val_pos (p : Pa) : 0 < p.val := by
  induction p with
  | z => show 0 < 1; omega
  | o p ih => show 0 < 2 * p.val; omega
  | i p ih => show 0 < 2 * p.val + 1; omega
theorem getP_eq (d : α) (t : T α) : ∀ p : Pa, T.getP d t p = T.get d t p.val := by
  induction t with
  | e => exact fun _ => rfl
  | n l v r ihl ihr =>
    intro p
    rw [get_n]
    cases p with
    | z => rw [if_pos (show Pa.val .z = 1 from rfl)]; rfl
    | o q =>
      have := q.val_pos
      have e : Pa.val (.o q) = 2 * q.val := rfl
      rw [if_neg (by omega), if_pos (by omega), show Pa.val (.o q) / 2 = q.val by omega]
      exact ihl q
    | i q =>
      have := q.val_pos
      have e : Pa.val (.i q) = 2 * q.val + 1 := rfl
      rw [if_neg (by omega), if_neg (by omega), show Pa.val (.i q) / 2 = q.val by omega]
      exact ihr q
theorem leafP_get (d x : α) (p : Pa) : ∀ j, T.get d (T.leafP d x p) j = if j = p.val then x else d := by
  induction p with
  | z =>
    intro j
    show T.get d (.n .e x .e) j = _
    rw [get_n]
    show (if j = 1 then x else _) = if j = 1 then x else d
    split
    · rfl
    · split <;> rfl
  | o q ih =>
    intro j
    show T.get d (nodeL (T.leafP d x q) d .e) j = _
    have e : Pa.val (.o q) = 2 * q.val := rfl
    have := q.val_pos
    rw [nodeL_eq, get_n, ih]
    by_cases h1 : j = 1
    · rw [if_pos h1, if_neg (by omega)]
    · rw [if_neg h1]
      by_cases h2 : j % 2 = 0
      · rw [if_pos h2]
        by_cases h3 : j / 2 = q.val
        · rw [if_pos h3, if_pos (by omega)]
        · rw [if_neg h3, if_neg (by omega)]
      · rw [if_neg h2, if_neg (by omega)]; rfl
  | i q ih =>
    intro j
    show T.get d (nodeR .e d (T.leafP d x q)) j = _
    have e : Pa.val (.i q) = 2 * q.val + 1 := rfl
    have := q.val_pos
    rw [nodeR_eq, get_n, ih]
    by_cases h1 : j = 1
    · rw [if_pos h1, if_neg (by omega)]
    · rw [if_neg h1]
      by_cases h2 : j % 2 = 0
      · rw [if_pos h2, if_neg (by omega)]; rfl
      · rw [if_neg h2]
        by_cases h3 : j / 2 = q.val
        · rw [if_pos h3, if_pos (by omega)]
        · rw [if_neg h3, if_neg (by omega)]
theorem setP_get (d : α) (t : T α) (x : α) : ∀ (p : Pa) (j : Nat), T.get d (T.setP d t x p) j = if j = p.val then x else T.get d t j := by
  induction t with
  | e => exact fun p j => leafP_get d x p j
  | n l v r ihl ihr =>
    intro p j
    cases p with
    | z =>
      show T.get d (.n l x r) j = if j = 1 then x else _
      rw [get_n, get_n]
      split <;> rfl
    | o q =>
      have e : Pa.val (.o q) = 2 * q.val := rfl
      have := q.val_pos
      show T.get d (nodeL (T.setP d l x q) v r) j = _
      rw [nodeL_eq, get_n, get_n, ihl]
      by_cases h1 : j = 1
      · rw [if_pos h1, if_neg (by omega), if_pos h1]
      · rw [if_neg h1, if_neg h1]
        by_cases h2 : j % 2 = 0
        · rw [if_pos h2, if_pos h2]
          by_cases h3 : j / 2 = q.val
          · rw [if_pos h3, if_pos (by omega)]
          · rw [if_neg h3, if_neg (by omega)]
        · rw [if_neg h2, if_neg h2, if_neg (by omega)]
    | i q =>
      have e : Pa.val (.i q) = 2 * q.val + 1 := rfl
      have := q.val_pos
      show T.get d (nodeR l v (T.setP d r x q)) j = _
      rw [nodeR_eq, get_n, get_n, ihr]
      by_cases h1 : j = 1
      · rw [if_pos h1, if_neg (by omega), if_pos h1]
      · rw [if_neg h1, if_neg h1]
        by_cases h2 : j % 2 = 0
        · rw [if_pos h2, if_pos h2, if_neg (by omega)]
        · rw [if_neg h2, if_neg h2]
          by_cases h3 : j / 2 = q.val
          · rw [if_pos h3, if_pos (by omega)]
          · rw [if_neg h3, if_neg (by omega)]
end
end Go.Rn
