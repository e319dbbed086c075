/-
  One text of a symbolic evaluator over the model, shown sound once for every program: no statement is claimed here.
-/
import Derived.Test.YtendogjdmabknaaRnC
import Derived.Laws.Append
import Derived.Laws.CopyRow
import Derived.ChangeKeysEq
namespace Go.Rn
def SE.val (ρ : Nat → Int) : SE → Int
  | .v n => ρ n
  | .c z => z
  | .add k a b => k.wrap (a.val ρ + b.val ρ)
  | .sub k a b => k.wrap (a.val ρ - b.val ρ)
  | .mul k a b => k.wrap (a.val ρ * b.val ρ)
/-- where the runner's blocks lie: block, offset, the row's length -/
abbrev Mp := Nat → Option (Nat × Nat × Nat)
/-- a value of one cell -/
def Cell (v : Value) : Prop := v.oneCell' = true
/-- a function with what it captured: its receiver ahead, from BND on; a loop's yield, from twice as much on -/
def fnV (f : Nat) (cs : List Value) : Value := if f < BND then .func (.func f) #[] cs.toArray else match cs with
  | x :: r => if f < 33554432 then .func (.func (f - BND)) #[x] r.toArray else match x with
    | .map (some L) => .func (.yield L) #[] #[]
    | _ => match r with
      | y :: _ => .iface (f - 33554432) y
      | [] => .func (.func f) #[] #[]
  | [] => if f < 33554432 then .func (.func f) #[] #[] else .nilIface
theorem fnV_func {f : Nat} (hf : f < 33554432) (cs : List Value) : ∃ a b c, fnV f cs = .func (.func a) b c := by
  unfold fnV
  split
  · exact ⟨_, _, _, rfl⟩
  · cases cs with
    | nil => dsimp only; exact ⟨_, _, _, rfl⟩
    | cons x r => dsimp only; exact ⟨_, _, _, rfl⟩
theorem fnV_nil {f : Nat} (hf : 33554432 ≤ f) : fnV f [] = .nilIface := by
  have hB : BND = 16777216 := rfl
  unfold fnV
  rw [if_neg (by omega)]
  dsimp only
  rw [if_neg (by omega)]
theorem fnV_if {f : Nat} (hf : 33554432 ≤ f) (y : Value) (r : List Value) : fnV f (.tuple #[] :: y :: r) = .iface (f - 33554432) y := by
  have hB : BND = 16777216 := rfl
  unfold fnV
  rw [if_neg (by omega)]
  dsimp only
  rw [if_neg (by omega)]
/-- a function, a round's yield, an interface's value -/
theorem fnV_kinds (f : Nat) (cs : List Value) : (∃ a b c, fnV f cs = .func (.func a) b c) ∨ (∃ L, fnV f cs = .func (.yield L) #[] #[]) ∨ (∃ t y, fnV f cs = .iface t y) ∨ (cs = [] ∧ fnV f cs = .nilIface) := by
  rcases Nat.lt_or_ge f 33554432 with h | h
  · exact .inl (fnV_func h cs)
  · have hB : BND = 16777216 := rfl
    cases cs with
    | nil => exact .inr (.inr (.inr ⟨rfl, fnV_nil h⟩))
    | cons x r =>
      unfold fnV
      rw [if_neg (by omega)]
      dsimp only
      rw [if_neg (by omega)]
      split
      · exact .inr (.inl ⟨_, rfl⟩)
      · split
        · exact .inr (.inr (.inl ⟨_, _, rfl⟩))
        · exact .inl ⟨_, _, _, rfl⟩
theorem fnV_cell (f : Nat) (cs : List Value) : Cell (fnV f cs) := by
  rcases fnV_kinds f cs with ⟨a, b, c, e⟩ | ⟨L, e⟩ | ⟨t, y, e⟩ | ⟨_, e⟩ <;> (rw [e]; rfl)
theorem fnV_lt {f : Nat} (h : f < BND) (cs : List Value) : fnV f cs = .func (.func f) #[] cs.toArray := if_pos h
theorem fnV_bound {f : Nat} (hf : f < BND) (x : Value) (cs : List Value) : fnV (BND + f) (x :: cs) = .func (.func f) #[x] cs.toArray := by
  have hB : BND = 16777216 := rfl
  unfold fnV
  rw [if_neg (by omega)]
  dsimp only
  rw [if_pos (by omega)]
  simp
theorem fnV_yield {k : Nat} (L : Nat) (cs : List Value) : fnV (33554432 + k) (.map (some L) :: cs) = .func (.yield L) #[] #[] := by
  have hB : BND = 16777216 := rfl
  unfold fnV
  rw [if_neg (by omega)]
  dsimp only
  rw [if_neg (by omega)]
def den (ρ : Nat → Int) (m : Mp) : RV → Value → Prop
  | .un, _ => True
  | .ud, v => v = undef
  | .b x, v => v = .bool x
  | .i k n, v => v = .int k n
  | .y k e, v => v = .int k (e.val ρ)
  | .s l, v => v = .string ⟨(l.map UInt8.ofNat).toArray⟩ ∧ ∀ x ∈ l, x < 256
  | .np, v => v = .pointer none
  | .p b o, v => ∃ B O Z, m b = some (B, O, Z) ∧ v = .pointer (some ⟨B, O + o, none⟩)
  | .ns, v => v = .slice none 0 0
  | .sl b o l c, v => ∃ B O Z, m b = some (B, O, Z) ∧ l ≤ c ∧ v = .slice (some ⟨B, O + o, none⟩) l c
  | .su b o l e, v => ∃ B O Z c, m b = some (B, O, Z) ∧ l ≤ c ∧ O + o + c * e = Z ∧ v = .slice (some ⟨B, O + o, none⟩) l c
  | .sx b e, v => ∃ B O Z O' c, m b = some (B, O, Z) ∧ (c = 0 ∨ O' + c * e = Z) ∧ v = .slice (some ⟨B, O', none⟩) 0 c
  | .nf, v => v = .nilFunc
  | .fn f c, v => ∃ cs : List Value, den ρ m c (.tuple cs.toArray) ∧ v = fnV f cs
  | .nil, v => v = .tuple #[]
  | .cons h t, v => ∃ (x : Value) (xs : List Value), den ρ m h x ∧ den ρ m t (.tuple xs.toArray) ∧ v = .tuple (x :: xs).toArray
  | .agg c, v => ∃ cs : List Value, den ρ m c (.tuple cs.toArray) ∧ (∀ x ∈ cs, Cell x) ∧ v = .agg cs.toArray
  | .tup c, v => ∃ cs : List Value, den ρ m c (.tuple cs.toArray) ∧ v = .tuple cs.toArray
  | .mp b, v => ∃ B O Z, m b = some (B, O, Z) ∧ v = .map (some B)
/-- a chain and what it stands for -/
def denC (ρ : Nat → Int) (m : Mp) (c : RV) (cs : List Value) : Prop := den ρ m c (.tuple cs.toArray)
def Le (m m' : Mp) : Prop := ∀ b x, m b = some x → m' b = some x
theorem Le.refl (m : Mp) : Le m m := fun _ _ h => h
theorem Le.trans {a b c : Mp} (h : Le a b) (k : Le b c) : Le a c := fun x y e => k x y (h x y e)
theorem den_le {ρ : Nat → Int} {m m' : Mp} (h : Le m m') : ∀ {r : RV} {v : Value}, den ρ m r v → den ρ m' r v := by
  intro r
  induction r with
  | un => exact fun _ => trivial
  | p b o => rintro v ⟨B, O, Z, h1, h2⟩; exact ⟨B, O, Z, h _ _ h1, h2⟩
  | sl b o l c => rintro v ⟨B, O, Z, h1, h2⟩; exact ⟨B, O, Z, h _ _ h1, h2⟩
  | su b o l e => rintro v ⟨B, O, Z, c, h1, h2⟩; exact ⟨B, O, Z, c, h _ _ h1, h2⟩
  | sx b e => rintro v ⟨B, O, Z, O', c, h1, h2⟩; exact ⟨B, O, Z, O', c, h _ _ h1, h2⟩
  | fn f c ih => rintro v ⟨cs, h1, h2⟩; exact ⟨cs, ih h1, h2⟩
  | cons a t iha iht => rintro v ⟨x, xs, h1, h2, h3⟩; exact ⟨x, xs, iha h1, iht h2, h3⟩
  | agg c ih => rintro v ⟨cs, h1, h2, h3⟩; exact ⟨cs, ih h1, h2, h3⟩
  | tup c ih => rintro v ⟨cs, h1, h2⟩; exact ⟨cs, ih h1, h2⟩
  | mp b => rintro v ⟨B, O, Z, h1, h2⟩; exact ⟨B, O, Z, h _ _ h1, h2⟩
  | _ => exact fun h => h
theorem denC_nil {ρ : Nat → Int} {m : Mp} {cs : List Value} : denC ρ m .nil cs ↔ cs = [] := by
  unfold denC
  constructor
  · intro h
    have h' : Value.tuple cs.toArray = .tuple #[] := h
    simpa using h'
  · rintro rfl; rfl
theorem denC_cons {ρ : Nat → Int} {m : Mp} {h t : RV} {cs : List Value} : denC ρ m (.cons h t) cs ↔ ∃ x xs, cs = x :: xs ∧ den ρ m h x ∧ denC ρ m t xs := by
  unfold denC
  constructor
  · rintro ⟨x, xs, h1, h2, h3⟩
    refine ⟨x, xs, ?_, h1, h2⟩
    have := congrArg (fun v => match v with | Value.tuple a => a.toList | _ => []) h3
    simpa using this
  · rintro ⟨x, xs, rfl, h1, h2⟩
    exact ⟨x, xs, h1, h2, rfl⟩
/-! ### the ways by kinds, turned round -/
section
variable {α : Type} {d x : α}
theorem gB_ok {v : RV} {k : Bool → α} (h : gB d v k = x) (hd : d ≠ x) : ∃ b, v = .b b ∧ k b = x := by
  cases v <;> first | exact absurd h hd | exact ⟨_, rfl, h⟩
theorem gI_ok {v : RV} {k : IntKind → Int → α} (h : gI d v k = x) (hd : d ≠ x) : ∃ j n, v = .i j n ∧ k j n = x := by
  cases v <;> first | exact absurd h hd | exact ⟨_, _, rfl, h⟩
theorem gI_or {v : RV} {k : IntKind → Int → α} (h : gI d v k = x) : (∃ j n, v = .i j n ∧ k j n = x) ∨ d = x := by
  cases v <;> first | exact .inr h | exact .inl ⟨_, _, rfl, h⟩
theorem gY_ok {v : RV} {k : IntKind → SE → α} (h : gY d v k = x) (hd : d ≠ x) : ∃ j e, (v = .y j e ∨ ∃ z, v = .i j z ∧ e = .c z) ∧ k j e = x := by
  cases v <;> first | exact absurd h hd | exact ⟨_, _, .inl rfl, h⟩ | exact ⟨_, _, .inr ⟨_, rfl, rfl⟩, h⟩
theorem gS_ok {v : RV} {k : List Nat → α} (h : gS d v k = x) (hd : d ≠ x) : ∃ l, v = .s l ∧ k l = x := by
  cases v <;> first | exact absurd h hd | exact ⟨_, rfl, h⟩
theorem gS_or {v : RV} {k : List Nat → α} (h : gS d v k = x) : (∃ l, v = .s l ∧ k l = x) ∨ d = x := by
  cases v <;> first | exact .inr h | exact .inl ⟨_, rfl, h⟩
theorem gP_ok {v : RV} {k : Nat → Nat → α} (h : gP d v k = x) (hd : d ≠ x) : ∃ b o, v = .p b o ∧ k b o = x := by
  cases v <;> first | exact absurd h hd | exact ⟨_, _, rfl, h⟩
theorem gP_or {v : RV} {k : Nat → Nat → α} (h : gP d v k = x) : (∃ b o, v = .p b o ∧ k b o = x) ∨ d = x := by
  cases v <;> first | exact .inr h | exact .inl ⟨_, _, rfl, h⟩
theorem gF_ok {v : RV} {k : Nat → RV → α} (h : gF d v k = x) (hd : d ≠ x) : ∃ f c, v = .fn f c ∧ k f c = x := by
  cases v <;> first | exact absurd h hd | exact ⟨_, _, rfl, h⟩
theorem gA_ok {v : RV} {k : RV → α} (h : gA d v k = x) (hd : d ≠ x) : ∃ c, v = .agg c ∧ k c = x := by
  cases v <;> first | exact absurd h hd | exact ⟨_, rfl, h⟩
theorem gT_ok {v : RV} {k : RV → α} (h : gT d v k = x) (hd : d ≠ x) : ∃ c, v = .tup c ∧ k c = x := by
  cases v <;> first | exact absurd h hd | exact ⟨_, rfl, h⟩
theorem nU_ok {v : RV} {k : RV → α} (h : nU d v k = x) (hd : d ≠ x) : v ≠ .un ∧ k v = x := by
  cases v <;> first | exact absurd h hd | exact ⟨by simp, h⟩
theorem gL_ok {v : RV} {k0 : α} {k1 : Nat → Nat → Nat → Nat → α} {k2 : Nat → Nat → Nat → Nat → α} {k3 : Nat → Nat → α} (h : gL d v k0 k1 k2 k3 = x) (hd : d ≠ x) :
    (v = .ns ∧ k0 = x) ∨ (∃ b o l c, v = .sl b o l c ∧ k1 b o l c = x) ∨ (∃ b o l e, v = .su b o l e ∧ k2 b o l e = x) ∨ (∃ b e, v = .sx b e ∧ k3 b e = x) := by
  cases v <;> first | exact absurd h hd | exact .inl ⟨rfl, h⟩ | exact .inr (.inl ⟨_, _, _, _, rfl, h⟩) | exact .inr (.inr (.inl ⟨_, _, _, _, rfl, h⟩)) | exact .inr (.inr (.inr ⟨_, _, rfl, h⟩))
theorem gN_ok {v : RV} {k0 : α} {k1 : RV → RV → α} (h : gN d v k0 k1 = x) (hd : d ≠ x) : (v = .nil ∧ k0 = x) ∨ ∃ a r, v = .cons a r ∧ k1 a r = x := by
  cases v <;> first | exact absurd h hd | exact .inl ⟨rfl, h⟩ | exact .inr ⟨_, _, rfl, h⟩
theorem gO_ok {β : Type} {v : Option β} {k : β → α} (h : gO d v k = x) (hd : d ≠ x) : ∃ y, v = some y ∧ k y = x := by
  cases v with
  | none => exact absurd h hd
  | some y => exact ⟨y, rfl, h⟩
theorem gO_or {β : Type} {v : Option β} {k : β → α} (h : gO d v k = x) : (∃ y, v = some y ∧ k y = x) ∨ (v = none ∧ d = x) := by
  cases v with
  | none => exact .inr ⟨rfl, h⟩
  | some y => exact .inl ⟨y, rfl, h⟩
theorem gK_ok {v : RB} {k : CT → Nat → α} (h : gK d v k = x) (hd : d ≠ x) : ∃ c z, v = .bk c z ∧ k c z = x := by
  cases v with
  | no => exact absurd h hd
  | bk c z =>
    have h1 : bf (Nat.beq z MAPZ) d (k c z) = x := h
    cases hz : Nat.beq z MAPZ with
    | true => rw [hz] at h1; exact absurd h1 hd
    | false => rw [hz] at h1; exact ⟨c, z, rfl, h1⟩
theorem gK_mz {v : RB} {k : CT → Nat → α} {c : CT} {z : Nat} (h : gK d v k = x) (hd : d ≠ x) (hv : v = .bk c z) : z ≠ MAPZ := by
  subst hv
  have h1 : bf (Nat.beq z MAPZ) d (k c z) = x := h
  intro e
  subst e
  exact hd h1
theorem bf_eq (c : Bool) (y n : α) : bf c y n = if c = true then y else n := by cases c <;> rfl
theorem bf_ok {c : Bool} {y : α} (h : bf c y d = x) (hd : d ≠ x) : c = true ∧ y = x := by
  cases c with
  | true => exact ⟨rfl, h⟩
  | false => exact absurd h hd
theorem bf_or {c : Bool} {y n : α} (h : bf c y n = x) : (c = true ∧ y = x) ∨ (c = false ∧ n = x) := by
  cases c with
  | true => exact .inl ⟨rfl, h⟩
  | false => exact .inr ⟨rfl, h⟩
theorem fT_eq {β : Type} (t : T β) (k : T β → α) : fT t k = k t := by cases t <;> rfl
theorem ble_ok {a b : Nat} (h : Nat.ble a b = true) : a ≤ b := Nat.le_of_ble_eq_true h
theorem beq_ok {a b : Nat} (h : Nat.beq a b = true) : a = b := Nat.eq_of_beq_eq_true h
theorem gC_ok {v : RV} {k : RV → α} (h : gC d v k = x) (hd : d ≠ x) : (∃ c, v = .agg c ∧ k c = x) ∨ (v ≠ .un ∧ k (.cons v .nil) = x ∧ ∀ ρ m u, den ρ m v u → Cell u) := by
  cases v with
  | agg c => exact .inl ⟨c, rfl, h⟩
  | un => exact absurd h hd
  | ud => exact absurd h hd
  | nil => exact absurd h hd
  | cons a b => exact absurd h hd
  | tup c => exact absurd h hd
  | b y => exact .inr ⟨by simp, h, by rintro ρ m u rfl; rfl⟩
  | i j y => exact .inr ⟨by simp, h, by rintro ρ m u rfl; rfl⟩
  | y j e => exact .inr ⟨by simp, h, by rintro ρ m u rfl; rfl⟩
  | s l => exact .inr ⟨by simp, h, by rintro ρ m u ⟨rfl, _⟩; rfl⟩
  | np => exact .inr ⟨by simp, h, by rintro ρ m u rfl; rfl⟩
  | p b o => exact .inr ⟨by simp, h, by rintro ρ m u ⟨B, O, Z, _, rfl⟩; rfl⟩
  | ns => exact .inr ⟨by simp, h, by rintro ρ m u rfl; rfl⟩
  | sl b o l c => exact .inr ⟨by simp, h, by rintro ρ m u ⟨B, O, Z, _, _, rfl⟩; rfl⟩
  | su b o l e => exact .inr ⟨by simp, h, by rintro ρ m u ⟨B, O, Z, c, _, _, _, rfl⟩; rfl⟩
  | sx b e => exact .inr ⟨by simp, h, by rintro ρ m u ⟨B, O, Z, O', c, _, _, rfl⟩; rfl⟩
  | nf => exact .inr ⟨by simp, h, by rintro ρ m u rfl; rfl⟩
  | fn f c => exact .inr ⟨by simp, h, by rintro ρ m u ⟨cs, _, rfl⟩; exact fnV_cell _ _⟩
  | mp b => exact .inr ⟨by simp, h, by rintro ρ m u ⟨B, O, Z, _, rfl⟩; rfl⟩
end
theorem gR_ok {r : SR} {k : RV → HT → Nat → SR} {v : RV} {h : HT} {n : Nat} (e : gR r k = .ok v h n) : ∃ v' h' n', r = .ok v' h' n' ∧ k v' h' n' = .ok v h n := by
  cases r with
  | ok a b c => exact ⟨a, b, c, rfl, e⟩
  | bad l => cases e
theorem kons_ok {x r y : RV} (h : kons x r = y) (hy : y ≠ .un) : x ≠ .un ∧ r ≠ .un ∧ y = .cons x r := by
  unfold kons at h
  obtain ⟨h1, h2⟩ := nU_ok h (fun e => hy e.symm)
  obtain ⟨h3, h4⟩ := nU_ok h2 (fun e => hy e.symm)
  exact ⟨h1, h3, h4.symm⟩
theorem okV_ok {v v' : RV} {h h' : HT} {n n' why : Nat} (e : okV v h n why = .ok v' h' n') : v ≠ .un ∧ v' = v ∧ h' = h ∧ n' = n := by
  unfold okV at e
  obtain ⟨h1, h2⟩ := nU_ok e (by simp)
  simp only [SR.ok.injEq] at h2
  exact ⟨h1, h2.1.symm, h2.2.1.symm, h2.2.2.symm⟩
theorem newBlk_ok4 {h h' : HT} {n n' z : Nat} {cs : CT} {v v' : RV} (e : newBlk h n cs z v = .ok v' h' n') : z ≠ MAPZ ∧ v' = v ∧ h' = hst h (.bk cs z) n ∧ n' = n + 1 := by
  unfold newBlk at e
  cases hz : Nat.beq z MAPZ with
  | true => rw [hz] at e; cases e
  | false =>
    rw [hz] at e
    have e1 : fT cs (fun cs => fT (hst h (.bk cs z) n) fun h => SR.ok v h (Nat.succ n)) = .ok v' h' n' := e
    rw [fT_eq, fT_eq] at e1
    cases e1
    refine ⟨fun q => ?_, rfl, rfl, rfl⟩
    rw [q, Nat.beq_refl] at hz
    cases hz
theorem cg_cst (c : CT) (x : RV) (k j : Nat) : (j = k ∧ (cg (cst c x k) j = x ∨ cg (cst c x k) j = .un)) ∨ (j ≠ k ∧ cg (cst c x k) j = cg c j) := by
  rcases get_set (.un : RV) c x (k + 1) (j + 1) with ⟨h, h'⟩ | ⟨h, h'⟩
  · exact .inl ⟨by omega, h'⟩
  · exact .inr ⟨by omega, h'⟩
theorem hg_hst (c : HT) (x : RB) (k j : Nat) : (j = k ∧ (hg (hst c x k) j = x ∨ hg (hst c x k) j = .no)) ∨ (j ≠ k ∧ hg (hst c x k) j = hg c j) := by
  rcases get_set (.no : RB) c x (k + 1) (j + 1) with ⟨h, h'⟩ | ⟨h, h'⟩
  · exact .inl ⟨by omega, h'⟩
  · exact .inr ⟨by omega, h'⟩
theorem cg_ce (k : Nat) : cg ce k = .un := rfl
theorem hg_he (k : Nat) : hg he k = .no := rfl
end Go.Rn
