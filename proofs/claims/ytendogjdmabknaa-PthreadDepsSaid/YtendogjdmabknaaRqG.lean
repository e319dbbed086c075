/-
  One text of a symbolic evaluator over the model, shown sound once for every program: no statement is claimed here.
-/
import Derived.Test.YtendogjdmabknaaRqF
namespace Go.Rn
attribute [local irreducible] HT9 CT7 RelC7 RelH9
section
variable {ys : Ys} {fl : Nat}
def LIM : Nat := 1152921504606846976
/-- a pure operation, one that may turn memory, as the elder run has them -/
def POk (ys : Ys) (f : P3) (o : RP) : Prop := ∀ t3 t c, FR t3 t → Good (f t3 c) → ∃ v, (∀ cl fl lim h n, step o ys cl fl lim t h n = .ok v h n) ∧ Good (c v)
def ClSim (fl : Nat) (cl3 : Cl3) (cl : Cl') : Prop := ∀ f a h3 h n k, HRel h3 h → Good (cl3 f a h3 n k) → ∃ v h' n' h3', cl f a fl h n = .ok v h' n' ∧ HRel h3' h' ∧ Good (k v h3' n')
def EOk (ys : Ys) (fl : Nat) (f : E3) (o : RP) : Prop := ∀ cl3 cl t3 t h3 h n c, ClSim fl cl3 cl → FR t3 t → HRel h3 h → Good (f cl3 t3 h3 n c) → ∃ v h' n' h3', step o ys cl fl LIM t h n = .ok v h' n' ∧ HRel h3' h' ∧ Good (c v h3' n')
def OwOk (ys : Ys) (fl : Nat) (w : Ow) (o : RP) : Prop := match w with | .p f => POk ys f o | .e f => EOk ys fl f o | .no => True
theorem ropW_ok (x : RO) : ∃ g, ropW x = .mk g ∧ GOk g fun t => ev t x := by
  cases x with
  | t p => exact getP_ok p
  | c v => exact ⟨_, rfl, fun _ _ _ _ h => h⟩
theorem g1_ok {x : RO} {f : G3 → Ow} {o : RP} (h : ∀ g, GOk g (fun t => ev t x) → OwOk ys fl (f g) o) : OwOk ys fl (g1 x f) o := by
  obtain ⟨g, e, hg⟩ := ropW_ok x
  unfold g1
  rw [e]
  exact h g hg
theorem g2_ok {x y : RO} {f : G3 → G3 → Ow} {o : RP} (h : ∀ a b, GOk a (fun t => ev t x) → GOk b (fun t => ev t y) → OwOk ys fl (f a b) o) : OwOk ys fl (g2 x y f) o :=
  g1_ok fun a ha => g1_ok fun b hb => h a b ha hb
theorem kons_of {x r : RV} (h1 : x ≠ .un) (h2 : r ≠ .un) : kons x r = .cons x r := by
  unfold kons
  cases x <;> first | exact absurd rfl h1 | (cases r <;> first | exact absurd rfl h2 | rfl)
theorem nU_of {α : Type} {d : α} {v : RV} {k : RV → α} (h : v ≠ .un) : nU d v k = k v := by cases v <;> first | exact absurd rfl h | rfl
theorem okV_of {v : RV} {h : HT} {n w : Nat} (e : v ≠ .un) : okV v h n w = .ok v h n := nU_of e
/-- a row of operands: none is unknown -/
def COk (g : G3) (e : FT → RV) : Prop := ∀ t3 t c, FR t3 t → Good (g t3 c) → e t ≠ .un ∧ Good (c (e t))
theorem evw_ok : ∀ l : List RO, ∃ g, evw l = .mk g ∧ COk g fun t => evL t l
  | [] => ⟨_, rfl, fun _ _ _ _ h => ⟨by show RV.nil ≠ .un; simp, h⟩⟩
  | x :: l => by
    obtain ⟨r, e1, h1⟩ := evw_ok l
    obtain ⟨g, e2, h2⟩ := ropW_ok x
    refine ⟨consW g r, ?_, ?_⟩
    · show @Gw.rec (fun _ => Gw) (fun r => @Gw.rec (fun _ => Gw) (fun g => .mk (consW g r)) (ropW x)) (evw l) = _
      rw [e1, e2]
    · intro t3 t c hF h
      obtain ⟨h3, h4⟩ := cU_ok (h2 _ _ _ hF h)
      obtain ⟨h5, h6⟩ := h1 _ _ _ hF h4
      show kons (ev t x) (evL t l) ≠ .un ∧ Good (c (kons (ev t x) (evL t l)))
      rw [kons_of h3 h5]
      exact ⟨by simp, h6⟩
theorem gl_ok {l : List RO} {f : G3 → Ow} {o : RP} (h : ∀ g, COk g (fun t => evL t l) → OwOk ys fl (f g) o) : OwOk ys fl (gl l f) o := by
  obtain ⟨g, e, hg⟩ := evw_ok l
  unfold gl
  rw [e]
  exact h g hg
def NOk (f : F3 → Nat → (Nat → A) → A) (x : Option RO) : Prop := ∀ t3 t d c, FR t3 t → Good (f t3 d c) → ∃ m, optN t x d = some m ∧ Good (c m)
theorem optW_ok (x : Option RO) : ∃ f, optW x = .mk f ∧ NOk f x := by
  cases x with
  | none => exact ⟨_, rfl, fun _ _ d _ _ h => ⟨d, rfl, h⟩⟩
  | some x =>
    obtain ⟨g, e, hg⟩ := ropW_ok x
    refine ⟨optN3 g, ?_, ?_⟩
    · show @Gw.rec (fun _ => Nw) (fun g => .mk (optN3 g)) (ropW x) = _
      rw [e]
    · intro t3 t d c hF h
      obtain ⟨j, m, e1, h1⟩ := cK_ok (hg _ _ _ hF h)
      refine ⟨m, ?_, h1⟩
      have e1 : ev t x = .i j (.ofNat m) := e1
      show gI none (ev t x) (fun _ n => bf (nonI n) (some (natI n)) none) = some m
      rw [e1]
      rfl
theorem n1_ok {x : Option RO} {f : (F3 → Nat → (Nat → A) → A) → Ow} {o : RP} (h : ∀ g, NOk g x → OwOk ys fl (f g) o) : OwOk ys fl (n1 x f) o := by
  obtain ⟨g, e, hg⟩ := optW_ok x
  unfold n1
  rw [e]
  exact h g hg
/-! chains -/
theorem chG_ok : ∀ {j : Nat} {c : RV} {k : RV → A}, Good (chG j c k) → chGet c j ≠ .un ∧ Good (k (chGet c j))
  | 0, c, k, h => by
    obtain ⟨a, r, rfl, h1⟩ := cN_ok h
    exact cU_ok h1
  | j + 1, c, k, h => by
    obtain ⟨a, r, rfl, h1⟩ := cN_ok h
    exact chG_ok (j := j) (c := r) h1
theorem skip3_ok : ∀ {j : Nat} {c : RV} {k : RV → A}, Good (skip3 j c k) → ∃ r, (∀ i, chGet c (j + i) = chGet r i) ∧ Good (k r)
  | 0, c, k, h => ⟨c, fun i => by rw [Nat.zero_add], h⟩
  | j + 1, c, k, h => by
    obtain ⟨a, r, rfl, h1⟩ := cN_ok h
    obtain ⟨q, h2, h3⟩ := skip3_ok (j := j) (c := r) h1
    refine ⟨q, fun i => ?_, h3⟩
    rw [← h2 i, show j + 1 + i = (j + i) + 1 by omega]
    rfl
theorem take3_ok : ∀ {m : Nat} {r c : RV} {o : Nat} {k : RV → A}, (∀ i, chGet c (o + i) = chGet r i) → Good (take3 m r k) → chSub c m o ≠ .un ∧ Good (k (chSub c m o))
  | 0, r, c, o, k, _, h => ⟨by show RV.nil ≠ .un; simp, h⟩
  | m + 1, r, c, o, k, hc, h => by
    obtain ⟨a, q, rfl, h1⟩ := cN_ok h
    obtain ⟨h2, h3⟩ := cU_ok h1
    obtain ⟨h4, h5⟩ := take3_ok (m := m) (r := q) (c := c) (o := o + 1) (fun i => by rw [show o + 1 + i = o + (i + 1) by omega, hc]; rfl) h3
    have e : chGet c o = a := by have := hc 0; rw [Nat.add_zero] at this; rw [this]; rfl
    show kons (chGet c o) (chSub c m (o + 1)) ≠ .un ∧ Good (k (kons (chGet c o) (chSub c m (o + 1))))
    rw [e, kons_of h2 h4]
    exact ⟨by simp, h5⟩
theorem part3_ok {g : Bool} {c : RV} {off m : Nat} {k : RV → A} (h : Good (part3 g c off m k)) : ∃ v, (∀ h n, partC g c off m h n = .ok v h n) ∧ Good (k v) := by
  rcases ifA_ok h with ⟨rfl, h1⟩ | ⟨rfl, h1⟩
  · obtain ⟨r, h2, h3⟩ := skip3_ok h1
    obtain ⟨h4, h5⟩ := take3_ok h2 h3
    exact ⟨_, fun h n => nU_of h4, h5⟩
  · obtain ⟨h2, h3⟩ := chG_ok h1
    exact ⟨_, fun h n => okV_of h2, h3⟩
theorem frcL_ok : ∀ {l : List Nat} {k : List Nat → A}, Good (frcL l k) → Good (k l)
  | [], _, h => h
  | x :: l, k, h => frcL_ok (l := l) (k := fun r => k (x :: r)) (frc_ok (r := x) (k := fun x => frcL l fun r => k (x :: r)) h)
theorem nthN_ok : ∀ {l : List Nat} {i : Nat} {k : Nat → A}, Good (nthN l i k) → i < l.length ∧ ∃ c, l[i]? = some c ∧ Good (k c)
  | [], _, _, h => Good.no h
  | x :: l, 0, _, h => ⟨by simp, x, by simp, h⟩
  | x :: l, i + 1, k, h => by
    obtain ⟨h1, c, h2, h3⟩ := nthN_ok (l := l) (i := i) (k := k) h
    exact ⟨by simp; omega, c, by simpa using h2, h3⟩
/-! numbers -/
def BOk (ys : Ys) (op : BinOp) (f : RV → RV → (RV → A) → A) : Prop := ∀ x y k, Good (f x y k) → binV ys op x y ≠ .un ∧ Good (k (binV ys op x y))
theorem slow_ok (op : BinOp) : BOk ys op (slow ys op) := fun _ _ _ h => cUv_ok h
theorem cM2_ok {x y : RV} {fi fu : Nat → Nat → A} {s : A} (h : Good (cM2 x y fi fu s)) : (∃ a b, x = .i .i64 (.ofNat a) ∧ y = .i .i64 (.ofNat b) ∧ Good (fi a b)) ∨ (∃ a b, x = .i .u64 (.ofNat a) ∧ y = .i .u64 (.ofNat b) ∧ Good (fu a b)) ∨ Good s := by
  rcases cM_ok h with ⟨a, rfl, h1⟩ | ⟨a, rfl, h1⟩ | h1
  · rcases cM_ok h1 with ⟨b, rfl, h2⟩ | ⟨b, rfl, h2⟩ | h2
    · exact .inl ⟨a, b, rfl, rfl, h2⟩
    · exact .inr (.inr h2)
    · exact .inr (.inr h2)
  · rcases cM_ok h1 with ⟨b, rfl, h2⟩ | ⟨b, rfl, h2⟩ | h2
    · exact .inr (.inr h2)
    · exact .inr (.inl ⟨a, b, rfl, rfl, h2⟩)
    · exact .inr (.inr h2)
  · exact .inr (.inr h1)
theorem mkI_nat (k : IntKind) (m : Nat) : mkI k (.ofNat m) = .i k (.ofNat m) := by cases m <;> rfl
theorem wrap_i64 {m : Nat} (h : m ≤ 9223372036854775807) : IntKind.wrap .i64 (.ofNat m) = .ofNat m := by
  simp only [IntKind.wrap, IntKind.bits, IntKind.signed]
  have : (Int.ofNat m) = (m : Int) := rfl
  rw [this]
  simp
  omega
theorem wrap_u64 (m : Nat) : IntKind.wrap .u64 (.ofNat m) = .ofNat (m % 18446744073709551616) := by
  simp only [IntKind.wrap, IntKind.bits, IntKind.signed]
  have : (Int.ofNat m) = (m : Int) := rfl
  rw [this]
  simp
theorem wrapI_i64 {m : Nat} (h : m ≤ 9223372036854775807) : wrapI .i64 (.ofNat m) = .i .i64 (.ofNat m) := by
  have e : small (.ofNat m) = true := Nat.ble_eq_true_of_le h
  show bf (small (.ofNat m)) (mkI .i64 (.ofNat m)) (mkI .i64 (IntKind.wrap .i64 (.ofNat m))) = _
  rw [e]
  exact mkI_nat _ _
theorem wrapI_u64 (m : Nat) : wrapI .u64 (.ofNat m) = .i .u64 (.ofNat (m % 18446744073709551616)) := by
  show mkI .u64 (IntKind.wrap .u64 (.ofNat m)) = _
  rw [wrap_u64, mkI_nat]
theorem chkI_ok {r : Nat} {k : RV → A} {s : A} (h : Good (chkI r k s)) : (r ≤ 9223372036854775807 ∧ Good (k (.i .i64 (.ofNat r)))) ∨ Good s := by
  rcases ifA_ok h with ⟨h1, h2⟩ | ⟨_, h2⟩
  · exact .inl ⟨Nat.le_of_ble_eq_true h1, frc_ok h2⟩
  · exact .inr h2
theorem chkU_ok {r : Nat} {k : RV → A} {s : A} (h : Good (chkU r k s)) : (r ≤ 18446744073709551615 ∧ Good (k (.i .u64 (.ofNat r)))) ∨ Good s := by
  rcases ifA_ok h with ⟨h1, h2⟩ | ⟨_, h2⟩
  · exact .inl ⟨Nat.le_of_ble_eq_true h1, frc_ok h2⟩
  · exact .inr h2
theorem to_b {op : BinOp} {x y v : RV} {k : RV → A} (e : binV ys op x y = v) (hv : v ≠ .un) (h : Good (k v)) : binV ys op x y ≠ .un ∧ Good (k (binV ys op x y)) := by rw [e]; exact ⟨hv, h⟩
theorem i_un {j : IntKind} {z : Int} : RV.i j z ≠ .un := by simp
theorem b_un {b : Bool} : mkB b ≠ .un := by cases b <;> simp [mkB]
theorem bAdd_ok : BOk ys .add (bAdd ys) := fun x y k h => by
  rcases cM2_ok h with ⟨a, b, rfl, rfl, h1⟩ | ⟨a, b, rfl, rfl, h1⟩ | h1
  · rcases chkI_ok h1 with ⟨h2, h3⟩ | h2
    · exact to_b (wrapI_i64 h2) i_un h3
    · exact slow_ok _ _ _ _ h2
  · exact to_b (wrapI_u64 (a + b)) i_un (frc_ok h1)
  · exact slow_ok _ _ _ _ h1
theorem bMul_ok : BOk ys .mul (bMul ys) := fun x y k h => by
  rcases cM2_ok h with ⟨a, b, rfl, rfl, h1⟩ | ⟨a, b, rfl, rfl, h1⟩ | h1
  · rcases chkI_ok h1 with ⟨h2, h3⟩ | h2
    · exact to_b (wrapI_i64 h2) i_un h3
    · exact slow_ok _ _ _ _ h2
  · exact to_b (wrapI_u64 (a * b)) i_un (frc_ok h1)
  · exact slow_ok _ _ _ _ h1
theorem sub_nat {a b : Nat} (h : b ≤ a) : Int.sub (.ofNat a) (.ofNat b) = .ofNat (a - b) := by
  show (a : Int) - (b : Int) = ((a - b : Nat) : Int)
  omega
theorem bSub_ok : BOk ys .sub (bSub ys) := fun x y k h => by
  rcases cM2_ok h with ⟨a, b, rfl, rfl, h1⟩ | ⟨a, b, rfl, rfl, h1⟩ | h1
  · rcases ifA_ok h1 with ⟨h2, h3⟩ | ⟨_, h3⟩
    · rcases chkI_ok h3 with ⟨h4, h5⟩ | h4
      · refine to_b (v := .i .i64 (.ofNat (a - b))) ?_ i_un h5
        show wrapI .i64 (Int.sub (.ofNat a) (.ofNat b)) = _
        rw [sub_nat (Nat.le_of_ble_eq_true h2)]
        exact wrapI_i64 h4
      · exact slow_ok _ _ _ _ h4
    · exact slow_ok _ _ _ _ h3
  · rcases ifA_ok h1 with ⟨h2, h3⟩ | ⟨_, h3⟩
    · rcases chkU_ok h3 with ⟨h4, h5⟩ | h4
      · refine to_b (v := .i .u64 (.ofNat (a - b))) ?_ i_un h5
        show wrapI .u64 (Int.sub (.ofNat a) (.ofNat b)) = _
        rw [sub_nat (Nat.le_of_ble_eq_true h2), wrapI_u64]
        have h4 : a - b ≤ 18446744073709551615 := h4
        rw [Nat.mod_eq_of_lt (by omega)]
      · exact slow_ok _ _ _ _ h4
    · exact slow_ok _ _ _ _ h3
  · exact slow_ok _ _ _ _ h1
theorem bBit_ok {op : BinOp} {f : Nat → Nat → Nat} (e : ∀ j a b, binV ys op (.i j (.ofNat a)) (.i j (.ofNat b)) = mkI j (IntKind.wrap j (.ofNat (f a b)))) : BOk ys op (bBit ys op f) := fun x y k h => by
  rcases cM2_ok h with ⟨a, b, rfl, rfl, h1⟩ | ⟨a, b, rfl, rfl, h1⟩ | h1
  · rcases chkI_ok h1 with ⟨h2, h3⟩ | h2
    · refine to_b (v := .i .i64 (.ofNat (f a b))) ?_ i_un h3
      rw [e, wrap_i64 h2, mkI_nat]
    · exact slow_ok _ _ _ _ h2
  · rcases chkU_ok h1 with ⟨h2, h3⟩ | h2
    · refine to_b (v := .i .u64 (.ofNat (f a b))) ?_ i_un h3
      rw [e, wrap_u64, mkI_nat, Nat.mod_eq_of_lt (by omega)]
    · exact slow_ok _ _ _ _ h2
  · exact slow_ok _ _ _ _ h1
theorem bCmp_ok {op : BinOp} {f : Nat → Nat → Bool} (e1 : ∀ a b, binV ys op (.i .i64 (.ofNat a)) (.i .i64 (.ofNat b)) = mkB (f a b)) (e2 : ∀ a b, binV ys op (.i .u64 (.ofNat a)) (.i .u64 (.ofNat b)) = mkB (f a b)) : BOk ys op (bCmp ys op f) := fun x y k h => by
  rcases cM2_ok h with ⟨a, b, rfl, rfl, h1⟩ | ⟨a, b, rfl, rfl, h1⟩ | h1
  · exact to_b (e1 a b) b_un (mkBk_ok h1)
  · exact to_b (e2 a b) b_un (mkBk_ok h1)
  · exact slow_ok _ _ _ _ h1
theorem ltI_nat (a b : Nat) : ltI (.ofNat a) (.ofNat b) = Nat.ble (a + 1) b := by
  have e : ∀ z : Int, @Int.rec (fun _ => Bool) (fun _ => false) (fun _ => true) z = decide (z < 0) := by
    intro z
    cases z with
    | ofNat m => show false = decide ((m : Int) < 0); symm; rw [decide_eq_false_iff_not]; omega
    | negSucc m => show true = decide (Int.negSucc m < 0); symm; rw [decide_eq_true_iff]; omega
  show @Int.rec (fun _ => Bool) (fun _ => false) (fun _ => true) (Int.sub (.ofNat a) (.ofNat b)) = _
  rw [e]
  show decide ((a : Int) - (b : Int) < 0) = Nat.ble (a + 1) b
  cases h : Nat.ble (a + 1) b with
  | true => rw [decide_eq_true_iff]; have := Nat.le_of_ble_eq_true h; omega
  | false =>
    rw [decide_eq_false_iff_not]
    intro h2
    have : Nat.ble (a + 1) b = true := Nat.ble_eq_true_of_le (by omega)
    rw [h] at this; cases this
theorem not_lt (a b : Nat) : notB (Nat.ble (b + 1) a) = Nat.ble a b := by
  cases h : Nat.ble a b with
  | true =>
    have := Nat.le_of_ble_eq_true h
    cases h2 : Nat.ble (b + 1) a with
    | false => rfl
    | true => have := Nat.le_of_ble_eq_true h2; omega
  | false =>
    cases h2 : Nat.ble (b + 1) a with
    | true => rfl
    | false =>
      exfalso
      by_cases q : a ≤ b
      · rw [Nat.ble_eq_true_of_le q] at h; cases h
      · rw [Nat.ble_eq_true_of_le (show b + 1 ≤ a by omega)] at h2; cases h2
theorem bQuo_ok : BOk ys .quo (bQuo ys) := fun x y k h => by
  rcases cM2_ok h with ⟨a, b, rfl, rfl, h1⟩ | ⟨a, b, rfl, rfl, h1⟩ | h1
  · rcases ifA_ok h1 with ⟨_, h2⟩ | ⟨h2, h3⟩
    · exact Good.no h2
    · rcases chkI_ok h3 with ⟨h4, h5⟩ | h4
      · refine to_b (v := .i .i64 (.ofNat (a / b))) ?_ i_un h5
        show bf (Nat.beq b 0) .un (wrapI .i64 (Int.tdiv (.ofNat a) (.ofNat b))) = _
        rw [h2]
        exact wrapI_i64 h4
      · exact slow_ok _ _ _ _ h4
  · exact slow_ok _ _ _ _ h1
  · exact slow_ok _ _ _ _ h1
theorem bRem_ok : BOk ys .rem (bRem ys) := fun x y k h => by
  rcases cM2_ok h with ⟨a, b, rfl, rfl, h1⟩ | ⟨a, b, rfl, rfl, h1⟩ | h1
  · rcases ifA_ok h1 with ⟨_, h2⟩ | ⟨h2, h3⟩
    · exact Good.no h2
    · refine to_b (v := .i .i64 (.ofNat (a % b))) ?_ i_un (frc_ok h3)
      show bf (Nat.beq b 0) .un (mkI .i64 (Int.tmod (.ofNat a) (.ofNat b))) = _
      rw [h2]
      exact mkI_nat _ _
  · exact slow_ok _ _ _ _ h1
  · exact slow_ok _ _ _ _ h1
theorem shl_v (j i : IntKind) (a b : Nat) (h : Nat.ble b (IntKind.bits j) = true) : binV ys .shl (.i j (.ofNat a)) (.i i (.ofNat b)) = mkI j (IntKind.wrap j (.ofNat (a * 2 ^ b))) := by
  show bf (Nat.ble b (IntKind.bits j)) _ _ = _
  rw [h]
  rfl
theorem shr_v (j i : IntKind) (a b : Nat) (h : Nat.ble b (IntKind.bits j) = true) : binV ys .shr (.i j (.ofNat a)) (.i i (.ofNat b)) = mkI j (.ofNat (a / 2 ^ b)) := by
  show bf (Nat.ble b (IntKind.bits j)) _ _ = _
  rw [h]
  rfl
theorem shlI {i : IntKind} {a b : Nat} {k : RV → A} (h : Good (ifA (Nat.ble b 64) (chkI (Nat.mul a (Nat.pow 2 b)) k (slow ys .shl (.i .i64 (.ofNat a)) (.i i (.ofNat b)) k)) .no)) :
    binV ys .shl (.i .i64 (.ofNat a)) (.i i (.ofNat b)) ≠ .un ∧ Good (k (binV ys .shl (.i .i64 (.ofNat a)) (.i i (.ofNat b)))) := by
  obtain ⟨h1, h2⟩ := ifA_y h
  rcases chkI_ok h2 with ⟨h3, h4⟩ | h3
  · refine to_b (v := .i .i64 (.ofNat (a * 2 ^ b))) ?_ i_un h4
    have h3 : a * 2 ^ b ≤ 9223372036854775807 := h3
    rw [shl_v _ _ _ _ h1, wrap_i64 h3, mkI_nat]
  · exact slow_ok _ _ _ _ h3
theorem bShl_ok : BOk ys .shl (bShl ys) := fun x y k h => by
  rcases cM_ok h with ⟨a, rfl, h1⟩ | ⟨a, rfl, h1⟩ | h1
  · rcases cM_ok h1 with ⟨b, rfl, h2⟩ | ⟨b, rfl, h2⟩ | h2
    · exact shlI h2
    · exact shlI h2
    · exact slow_ok _ _ _ _ h2
  · rcases cM_ok h1 with ⟨b, rfl, h2⟩ | ⟨b, rfl, h2⟩ | h2
    · obtain ⟨h3, h4⟩ := ifA_y h2
      refine to_b (v := .i .u64 (.ofNat (a * 2 ^ b % 18446744073709551616))) ?_ i_un (frc_ok h4)
      rw [shl_v _ _ _ _ h3, wrap_u64, mkI_nat]
    · obtain ⟨h3, h4⟩ := ifA_y h2
      refine to_b (v := .i .u64 (.ofNat (a * 2 ^ b % 18446744073709551616))) ?_ i_un (frc_ok h4)
      rw [shl_v _ _ _ _ h3, wrap_u64, mkI_nat]
    · exact slow_ok _ _ _ _ h2
  · exact slow_ok _ _ _ _ h1
theorem shrI {j i : IntKind} {a b : Nat} {k : RV → A} (e : IntKind.bits j = 64) (h : Good (ifA (Nat.ble b 64) (frc (Nat.div a (Nat.pow 2 b)) fun r => k (.i j (.ofNat r))) .no)) :
    binV ys .shr (.i j (.ofNat a)) (.i i (.ofNat b)) ≠ .un ∧ Good (k (binV ys .shr (.i j (.ofNat a)) (.i i (.ofNat b)))) := by
  obtain ⟨h1, h2⟩ := ifA_y h
  refine to_b (v := .i j (.ofNat (a / 2 ^ b))) ?_ i_un (frc_ok h2)
  rw [shr_v _ _ _ _ (by rw [e]; exact h1), mkI_nat]
theorem bShr_ok : BOk ys .shr (bShr ys) := fun x y k h => by
  rcases cM_ok h with ⟨a, rfl, h1⟩ | ⟨a, rfl, h1⟩ | h1
  · rcases cM_ok h1 with ⟨b, rfl, h2⟩ | ⟨b, rfl, h2⟩ | h2
    · exact shrI rfl h2
    · exact shrI rfl h2
    · exact slow_ok _ _ _ _ h2
  · rcases cM_ok h1 with ⟨b, rfl, h2⟩ | ⟨b, rfl, h2⟩ | h2
    · exact shrI rfl h2
    · exact shrI rfl h2
    · exact slow_ok _ _ _ _ h2
  · exact slow_ok _ _ _ _ h1
theorem binW_ok (op : BinOp) : BOk ys op (binW ys op) := by
  cases op with
  | add => exact bAdd_ok
  | sub => exact bSub_ok
  | mul => exact bMul_ok
  | quo => exact bQuo_ok
  | rem => exact bRem_ok
  | and => exact bBit_ok fun _ _ _ => by rename_i j _ _; cases j <;> rfl
  | or => exact bBit_ok fun _ _ _ => by rename_i j _ _; cases j <;> rfl
  | xor => exact bBit_ok fun _ _ _ => by rename_i j _ _; cases j <;> rfl
  | shl => exact bShl_ok
  | shr => exact bShr_ok
  | andNot => exact slow_ok _
  | eql => exact bCmp_ok (fun _ _ => rfl) (fun _ _ => rfl)
  | neq => exact bCmp_ok (fun _ _ => rfl) (fun _ _ => rfl)
  | lss => exact bCmp_ok (fun a b => congrArg mkB (ltI_nat a b)) (fun a b => congrArg mkB (ltI_nat a b))
  | leq => exact bCmp_ok (fun a b => by show mkB (notB (ltI (.ofNat b) (.ofNat a))) = _; rw [ltI_nat, not_lt]) (fun a b => by show mkB (notB (ltI (.ofNat b) (.ofNat a))) = _; rw [ltI_nat, not_lt])
  | gtr => exact bCmp_ok (fun a b => congrArg mkB (ltI_nat b a)) (fun a b => congrArg mkB (ltI_nat b a))
  | geq => exact bCmp_ok (fun a b => by show mkB (notB (ltI (.ofNat a) (.ofNat b))) = _; rw [ltI_nat, not_lt]; rfl) (fun a b => by show mkB (notB (ltI (.ofNat a) (.ofNat b))) = _; rw [ltI_nat, not_lt]; rfl)
end
end Go.Rn
