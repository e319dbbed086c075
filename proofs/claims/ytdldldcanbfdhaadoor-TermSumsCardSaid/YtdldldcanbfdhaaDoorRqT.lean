/-
  One text of a symbolic evaluator over the model, shown sound once for every program: no statement is claimed here.
-/
import Derived.Test.YtdldldcanbfdhaaDoorRqS
namespace Go.Rn
variable {ρ : Nat → Int} {P : Program}
/-! internal/strconv.Atoi at every string of at most 18 bytes; stringslite.Clone -/
noncomputable def decNL (l : List Nat) : Option Nat := @List.rec Nat (fun _ => Option Nat) none (fun x t _ => decL (x :: t) 0) l
noncomputable def negN (n : Nat) : Int := @Nat.rec (fun _ => Int) (Int.ofNat 0) (fun m _ => Int.negSucc m) n
noncomputable def atoiL (l : List Nat) : Option Int := @List.rec Nat (fun _ => Option Int) none (fun b r _ => bf (Nat.beq b 45) (gO none (decNL r) fun n => some (negN n)) (bf (Nat.beq b 43) (gO none (decNL r) fun n => some (Int.ofNat n)) (gO none (decNL (b :: r)) fun n => some (Int.ofNat n)))) l
noncomputable def atoiR (t : Nat) (o : Option Int) : RV := @Option.rec Int (fun _ => RV) (.tup (.cons (.i .i64 (.ofNat 0)) (.cons (.fn (33554432 + t) (.cons .nil (.cons (.i .i64 (.ofNat 2)) .nil))) .nil))) (fun n => .tup (.cons (.i .i64 n) (.cons (.fn 33554432 .nil) .nil))) o
noncomputable def atoiG (f t : Nat) : Nat → RV → Option RV := fun f' c => bf (Nat.beq f' f) (gN none c none fun x r => gN none r (gS none x fun l => bf (Nat.ble l.length 18) (some (atoiR t (atoiL l))) none) fun _ _ => none) none
noncomputable def cloneO (f : Nat) : Nat → RV → Option RV := fun f' c => bf (Nat.beq f' f) (gN none c none fun x r => gN none r (gS none x fun l => bf (Nat.ble l.length 1048576) (some (.s l)) none) fun _ _ => none) none
theorem decL_eq : ∀ {l : List Nat} {a : Nat}, (∀ x ∈ l, x < 256) → Lib.decFrom a (l.map UInt8.ofNat) = decL l a
  | [], _, _ => rfl
  | x :: l, a, hl => by
    have ih := fun a => decL_eq (a := a) (fun y hy => hl y (List.mem_cons_of_mem _ hy))
    have hx := hl x List.mem_cons_self
    have e1 : (UInt8.ofNat x).toNat = x := by simp only [UInt8.toNat_ofNat']; omega
    rw [List.map_cons]
    show (match Lib.digitVal (UInt8.ofNat x) with | some d => Lib.decFrom (a * 10 + d) (l.map UInt8.ofNat) | none => none) = bf (Nat.ble 48 x) (bf (Nat.ble x 57) (decL l (a * 10 + (x - 48))) none) none
    unfold Lib.digitVal
    rw [e1]
    by_cases h1 : 48 ≤ x
    · by_cases h2 : x ≤ 57
      · rw [if_pos ⟨h1, h2⟩, Nat.ble_eq_true_of_le h1, Nat.ble_eq_true_of_le h2]
        exact ih _
      · rw [if_neg (by omega), Nat.ble_eq_true_of_le h1, show Nat.ble x 57 = false from by
          cases hb : Nat.ble x 57 with
          | false => rfl
          | true => exact absurd (Nat.le_of_ble_eq_true hb) h2]
        rfl
    · rw [if_neg (by omega), show Nat.ble 48 x = false from by
          cases hb : Nat.ble 48 x with
          | false => rfl
          | true => exact absurd (Nat.le_of_ble_eq_true hb) h1]
      rfl
theorem decNL_eq {l : List Nat} (hl : ∀ x ∈ l, x < 256) : Lib.decNat (l.map UInt8.ofNat) = decNL l := by
  cases l with
  | nil => rfl
  | cons x l =>
    have := decL_eq (a := 0) hl
    unfold Lib.decNat
    rw [this]; rfl
theorem negN_eq (n : Nat) : negN n = -(n : Int) := by cases n <;> rfl
theorem gO_map {α β : Type} (o : Option α) (k : α → β) : gO none o (fun n => some (k n)) = o.map k := by cases o <;> rfl
theorem atoiL_eq {l : List Nat} (hl : ∀ x ∈ l, x < 256) : Lib.atoi (l.map UInt8.ofNat) = atoiL l := by
  cases l with
  | nil => rfl
  | cons b r =>
    have hb := hl b List.mem_cons_self
    have hr : ∀ x ∈ r, x < 256 := fun x hx => hl x (List.mem_cons_of_mem _ hx)
    have e45 : (UInt8.ofNat b == 45) = Nat.beq b 45 := ofNat_beq (b := 45) hb (by decide)
    have e43 : (UInt8.ofNat b == 43) = Nat.beq b 43 := ofNat_beq (b := 43) hb (by decide)
    rw [List.map_cons]
    show (if (UInt8.ofNat b == 45) = true then (Lib.decNat (r.map UInt8.ofNat)).map fun (m : Nat) => -(m : Int) else if (UInt8.ofNat b == 43) = true then (Lib.decNat (r.map UInt8.ofNat)).map fun (m : Nat) => (m : Int) else (Lib.decNat ((b :: r).map UInt8.ofNat)).map fun (m : Nat) => (m : Int)) = bf (Nat.beq b 45) (gO none (decNL r) fun n => some (negN n)) (bf (Nat.beq b 43) (gO none (decNL r) fun n => some (Int.ofNat n)) (gO none (decNL (b :: r)) fun n => some (Int.ofNat n)))
    rw [e45, e43, decNL_eq hr, decNL_eq hl, gO_map, gO_map, gO_map]
    have hn : negN = fun (m : Nat) => -(m : Int) := funext negN_eq
    cases Nat.beq b 45 with
    | true => show (decNL r).map _ = (decNL r).map _; rw [hn]
    | false =>
      cases Nat.beq b 43 with
      | true => rfl
      | false => rfl
def atoiV (t : TypeId) : Option Int → Value
  | some n => .tuple #[.int .i64 n, .nilIface]
  | none => .tuple #[.int .i64 0, .iface t (.int .i64 2)]
theorem atoiR_den {m : Mp} {t : Nat} {o : Option Int} : den ρ m (atoiR t o) (atoiV t o) := by
  cases o with
  | some n => exact ⟨[.int .i64 n, .nilIface], denC_cons.2 ⟨_, _, rfl, rfl, denC_cons.2 ⟨_, _, rfl, ⟨[], denC_nil.2 rfl, (fnV_nil (Nat.le_refl _)).symm⟩, denC_nil.2 rfl⟩⟩, rfl⟩
  | none => exact ⟨[.int .i64 0, .iface t (.int .i64 2)], denC_cons.2 ⟨_, _, rfl, rfl, denC_cons.2 ⟨_, _, rfl, if_den rfl, denC_nil.2 rfl⟩⟩, rfl⟩
theorem atoiG_ok {f t : Nat} (hk : known P f = true) (hp : ∀ (s : ByteArray) (w : World), s.size ≤ 18 → Calls P f #[.string s] w fun e w' => e = .returned (atoiV t (Lib.atoi s.data.toList)) ∧ Old w w') : OrcOk P ρ (atoiG f t) := by
  intro f' c v h
  unfold atoiG at h
  obtain ⟨h1, h2⟩ := bf_ok h (by simp)
  have hf := beq_ok h1
  subst hf
  refine ⟨hk, fun m w vs hd => ?_⟩
  rcases gN_ok h2 (by simp) with ⟨_, h3⟩ | ⟨x, r, rfl, h3⟩
  · cases h3
  rcases gN_ok h3 (by simp) with ⟨rfl, h5⟩ | ⟨_, _, _, h5⟩
  · obtain ⟨l, rfl, h6⟩ := gS_ok h5 (by simp)
    obtain ⟨c1, h7⟩ := bf_ok h6 (by simp)
    have h7 := Option.some.inj h7
    subst h7
    obtain ⟨u, us, rfl, q1, q2⟩ := denC_cons.1 hd
    have := denC_nil.1 q2
    subst this
    have e1 : u = .string ⟨(l.map UInt8.ofNat).toArray⟩ ∧ ∀ x ∈ l, x < 256 := q1
    obtain ⟨rfl, hl⟩ := e1
    have hs : (⟨(l.map UInt8.ofNat).toArray⟩ : ByteArray).size = l.length := by simp [ByteArray.size]
    refine (hp ⟨(l.map UInt8.ofNat).toArray⟩ w (by rw [hs]; exact Nat.le_of_ble_eq_true c1)).mono ?_
    rintro e w' ⟨rfl, ho⟩
    refine ⟨_, rfl, ho, ?_⟩
    show den ρ m _ (atoiV t (Lib.atoi (l.map UInt8.ofNat)))
    rw [atoiL_eq hl]
    exact atoiR_den
  · cases h5
theorem clone_ok {f : Nat} (hk : known P f = true) (hp : ∀ (s : ByteArray) (w : World), s.size ≤ 1048576 → Calls P f #[.string s] w fun e w' => e = .returned (.string s) ∧ Old w w') : OrcOk P ρ (cloneO f) := by
  intro f' c v h
  unfold cloneO at h
  obtain ⟨h1, h2⟩ := bf_ok h (by simp)
  have hf := beq_ok h1
  subst hf
  refine ⟨hk, fun m w vs hd => ?_⟩
  rcases gN_ok h2 (by simp) with ⟨_, h3⟩ | ⟨x, r, rfl, h3⟩
  · cases h3
  rcases gN_ok h3 (by simp) with ⟨rfl, h5⟩ | ⟨_, _, _, h5⟩
  · obtain ⟨l, rfl, h6⟩ := gS_ok h5 (by simp)
    obtain ⟨c1, h7⟩ := bf_ok h6 (by simp)
    cases h7
    obtain ⟨u, us, rfl, q1, q2⟩ := denC_cons.1 hd
    have := denC_nil.1 q2
    subst this
    have e1 : u = .string ⟨(l.map UInt8.ofNat).toArray⟩ ∧ ∀ x ∈ l, x < 256 := q1
    obtain ⟨rfl, hl⟩ := e1
    have hs : (⟨(l.map UInt8.ofNat).toArray⟩ : ByteArray).size = l.length := by simp [ByteArray.size]
    refine (hp ⟨(l.map UInt8.ofNat).toArray⟩ w (by rw [hs]; exact Nat.le_of_ble_eq_true c1)).mono ?_
    rintro e w' ⟨rfl, ho⟩
    exact ⟨_, rfl, ho, rfl, hl⟩
  · cases h5
end Go.Rn
