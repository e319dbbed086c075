/-
  One text of a symbolic evaluator over the model, shown sound once for every program: no statement is claimed here.
-/
import Derived.Test.YtendogjdmabknaaRqC
namespace Go.Rn
attribute [local irreducible] HT9 CT7
section
variable {v : RV} {y n s k0 : A}
theorem cB_ok {k : Bool → A} (h : Good (cB v k)) : ∃ x, v = .b x ∧ Good (k x) := by cases v <;> first | exact ⟨_, rfl, h⟩ | exact Good.no h
theorem cI_ok {k : IntKind → Int → A} (h : Good (cI v k)) : ∃ j z, v = .i j z ∧ Good (k j z) := by cases v <;> first | exact ⟨_, _, rfl, h⟩ | exact Good.no h
theorem cS_ok {k : List Nat → A} (h : Good (cS v k)) : ∃ x, v = .s x ∧ Good (k x) := by cases v <;> first | exact ⟨_, rfl, h⟩ | exact Good.no h
theorem cP_ok {k : Nat → Nat → A} (h : Good (cP v k)) : ∃ b o, v = .p b o ∧ Good (k b o) := by cases v <;> first | exact ⟨_, _, rfl, h⟩ | exact Good.no h
theorem cF_ok {k : Nat → RV → A} (h : Good (cF v k)) : ∃ f c, v = .fn f c ∧ Good (k f c) := by cases v <;> first | exact ⟨_, _, rfl, h⟩ | exact Good.no h
theorem cA_ok {k : RV → A} (h : Good (cA v k)) : ∃ c, v = .agg c ∧ Good (k c) := by cases v <;> first | exact ⟨_, rfl, h⟩ | exact Good.no h
theorem cT_ok {k : RV → A} (h : Good (cT v k)) : ∃ c, v = .tup c ∧ Good (k c) := by cases v <;> first | exact ⟨_, rfl, h⟩ | exact Good.no h
theorem cN_ok {k : RV → RV → A} (h : Good (cN v k)) : ∃ a r, v = .cons a r ∧ Good (k a r) := by cases v <;> first | exact ⟨_, _, rfl, h⟩ | exact Good.no h
theorem cNn_ok {k : RV → RV → A} (h : Good (cNn v k0 k)) : (v = .nil ∧ Good k0) ∨ ∃ a r, v = .cons a r ∧ Good (k a r) := by cases v <;> first | exact .inr ⟨_, _, rfl, h⟩ | exact .inl ⟨rfl, h⟩ | exact Good.no h
theorem cU_ok (h : Good (cU v y)) : v ≠ .un ∧ Good y := by cases v <;> first | exact ⟨by simp, h⟩ | exact Good.no h
theorem cUv_ok {k : RV → A} (h : Good (cUv v k)) : v ≠ .un ∧ Good (k v) := by cases v <;> first | exact ⟨by simp, h⟩ | exact Good.no h
theorem cL_ok {k1 k2 : Nat → Nat → Nat → Nat → A} {k3 : Nat → Nat → A} (h : Good (cL v k0 k1 k2 k3)) : (v = .ns ∧ Good k0) ∨ (∃ b o l c, v = .sl b o l c ∧ Good (k1 b o l c)) ∨ (∃ b o l e, v = .su b o l e ∧ Good (k2 b o l e)) ∨ (∃ b e, v = .sx b e ∧ Good (k3 b e)) := by
  cases v <;> first | exact .inl ⟨rfl, h⟩ | exact .inr (.inl ⟨_, _, _, _, rfl, h⟩) | exact .inr (.inr (.inl ⟨_, _, _, _, rfl, h⟩)) | exact .inr (.inr (.inr ⟨_, _, rfl, h⟩)) | exact Good.no h
theorem cC_ok {k : RV → A} (h : Good (cC v k y)) : (∃ c, v = .agg c ∧ Good (k c)) ∨ ((∀ {α : Type} (d : α) (f : RV → α), gC d v f = f (.cons v .nil)) ∧ v ≠ .un ∧ Good y) := by
  cases v <;> first | exact .inl ⟨_, rfl, h⟩ | exact .inr ⟨fun _ _ => rfl, by simp, h⟩ | exact Good.no h
theorem ifA_ok {c : Bool} (h : Good (ifA c y n)) : (c = true ∧ Good y) ∨ (c = false ∧ Good n) := by cases c <;> first | exact .inl ⟨rfl, h⟩ | exact .inr ⟨rfl, h⟩
theorem ifA_y {c : Bool} (h : Good (ifA c y .no)) : c = true ∧ Good y := by cases c <;> first | exact ⟨rfl, h⟩ | exact Good.no h
theorem cNc_ok (h : Good (cNc v y)) : ((∃ b o, v = .p b o) ∨ ∃ f c, v = .fn f c ∧ (Nat.ble 33554432 f = true → ∃ a r, c = .cons a r)) ∧ Good y := by
  cases v <;> first | exact ⟨.inl ⟨_, _, rfl⟩, h⟩ | exact Good.no h | skip
  rename_i f c
  rcases ifA_ok (show Good (ifA (Nat.ble 33554432 f) (cN c fun _ _ => y) y) from h) with ⟨_, h1⟩ | ⟨e, h1⟩
  · obtain ⟨a, r, e, h2⟩ := cN_ok h1
    exact ⟨.inr ⟨f, c, rfl, fun _ => ⟨a, r, e⟩⟩, h2⟩
  · exact ⟨.inr ⟨f, c, rfl, fun q => by rw [e] at q; cases q⟩, h1⟩
theorem cNil_ok {k : Nat → Bool → A} (h : Good (cNil v k)) : ∃ q a, isNil v = some (q, a) ∧ Good (k q a) := by
  cases v <;> first | exact ⟨_, _, rfl, h⟩ | exact Good.no h | skip
  rename_i f c
  rcases ifA_ok (show Good (ifA (Nat.ble 33554432 f) .no (k 2 false)) from h) with ⟨_, h1⟩ | ⟨e, h1⟩
  · exact Good.no h1
  · refine ⟨2, false, ?_, h1⟩
    show bf (Nat.ble 33554432 f) none (some (2, false)) = _
    rw [e]; rfl
theorem cIf_ok {z : A} {k : Nat → RV → A} (h : Good (cIf v z k)) : ∃ f, Nat.ble 33554432 f = true ∧ ((v = .fn f .nil ∧ Good z) ∨ ∃ x, v = .fn f (.cons .nil (.cons x .nil)) ∧ Good (k f x)) := by
  unfold cIf at h
  obtain ⟨f, c, rfl, h1⟩ := cF_ok h
  obtain ⟨hb, h2⟩ := ifA_y h1
  refine ⟨f, hb, ?_⟩
  rcases cNn_ok h2 with ⟨rfl, h3⟩ | ⟨y, r, rfl, h3⟩
  · exact .inl ⟨rfl, h3⟩
  · rcases cNn_ok h3 with ⟨rfl, h4⟩ | ⟨_, _, _, h4⟩
    · obtain ⟨x, q, rfl, h5⟩ := cN_ok h4
      rcases cNn_ok h5 with ⟨rfl, h6⟩ | ⟨_, _, _, h6⟩
      · exact .inr ⟨x, rfl, h6⟩
      · exact Good.no h6
    · exact Good.no h4
theorem gIf_nil {d z : SR} {k : Nat → RV → SR} {f : Nat} (hf : Nat.ble 33554432 f = true) : gIf d (.fn f .nil) z k = z := by
  show bf (Nat.ble 33554432 f) z d = z
  rw [hf]; rfl
theorem gIf_if {d z : SR} {k : Nat → RV → SR} {f : Nat} {x : RV} (hf : Nat.ble 33554432 f = true) : gIf d (.fn f (.cons .nil (.cons x .nil))) z k = k f x := by
  show bf (Nat.ble 33554432 f) (k f x) d = k f x
  rw [hf]; rfl
theorem cG_ok {w : Bool} (h : Good (cG v w y n)) : (∃ x, v = .b x ∧ eqB x w = true ∧ Good y) ∨ (∃ x, v = .b x ∧ eqB x w = false ∧ Good n) ∨ (v = .ud ∧ Good n) := by
  cases v <;> first | exact .inr (.inr ⟨rfl, h⟩) | exact Good.no h | skip
  rcases ifA_ok (show Good (ifA _ y n) from h) with ⟨a, b⟩ | ⟨a, b⟩
  · exact .inl ⟨_, rfl, a, b⟩
  · exact .inr (.inl ⟨_, rfl, a, b⟩)
theorem cY_ok {k : IntKind → SE → A} {ki : IntKind → Int → A} (h : Good (cY v k ki)) : (∃ j z, v = .i j z ∧ Good (ki j z)) ∨ ∃ j e, v = .y j e ∧ Good (k j e) := by cases v <;> first | exact .inl ⟨_, _, rfl, h⟩ | exact .inr ⟨_, _, rfl, h⟩ | exact Good.no h
theorem iN_ok {z : Int} {k : Nat → A} (h : Good (iN z k s)) : (∃ m, z = .ofNat m ∧ Good (k m)) ∨ Good s := by cases z <;> first | exact .inl ⟨_, rfl, h⟩ | exact .inr h
theorem cM_ok {ki ku : Nat → A} (h : Good (cM v ki ku s)) : (∃ m, v = .i .i64 (.ofNat m) ∧ Good (ki m)) ∨ (∃ m, v = .i .u64 (.ofNat m) ∧ Good (ku m)) ∨ Good s := by
  cases v <;> first | exact .inr (.inr h) | skip
  rename_i j z
  rcases iN_ok (show Good (iN z _ s) from h) with ⟨m, rfl, h1⟩ | h1
  · cases j <;> first | exact .inl ⟨_, rfl, h1⟩ | exact .inr (.inl ⟨_, rfl, h1⟩) | exact .inr (.inr h1)
  · exact .inr (.inr h1)
theorem cK_ok {k : Nat → A} (h : Good (cK v k)) : ∃ j m, v = .i j (.ofNat m) ∧ Good (k m) := by
  cases v <;> first | exact Good.no h | skip
  rename_i j z
  rcases iN_ok (show Good (iN z k .no) from h) with ⟨m, rfl, h1⟩ | h1
  · exact ⟨_, _, rfl, h1⟩
  · exact Good.no h1
theorem frc_ok {r : Nat} {k : Nat → A} (h : Good (frc r k)) : Good (k r) := by cases r <;> exact h
theorem cON_ok {o : Option Nat} {k : Nat → A} (h : Good (cON o k)) : ∃ x, o = some x ∧ Good (k x) := by cases o <;> first | exact ⟨_, rfl, h⟩ | exact Good.no h
theorem cOV_ok {o : Option RV} {k : RV → A} (h : Good (cOV o n k)) : (o = none ∧ Good n) ∨ ∃ x, o = some x ∧ Good (k x) := by cases o <;> first | exact .inr ⟨_, rfl, h⟩ | exact .inl ⟨rfl, h⟩
theorem mkBk_ok {b : Bool} {k : RV → A} (h : Good (mkBk b k)) : Good (k (mkB b)) := by cases b <;> exact h
theorem cLen_ok {k : Nat → A} (h : Good (cLen v k)) : ∃ l, slLen v = some l ∧ Good (k l) := by cases v <;> first | exact ⟨_, rfl, h⟩ | exact Good.no h
end
/-! trees -/
def PK : Pq → Nat → Prop
  | .z, k => k = 0
  | .a p, k => ∃ j, k = 4 * j + 1 ∧ PK p j
  | .b p, k => ∃ j, k = 4 * j + 2 ∧ PK p j
  | .c p, k => ∃ j, k = 4 * j + 3 ∧ PK p j
  | .d p, k => ∃ j, k = 4 * j + 4 ∧ PK p j
  | .e, _ => True
theorem four_ok {p : Pq} {j q : Nat} (h : PK p (q / 4)) (hj : j = q % 4) : PK (fourW j p) (q + 1) := by
  match j, hj with
  | 0, hj => exact ⟨q / 4, by omega, h⟩
  | 1, hj => exact ⟨q / 4, by omega, h⟩
  | 2, hj => exact ⟨q / 4, by omega, h⟩
  | 3, hj => exact ⟨q / 4, by omega, h⟩
  | j + 4, hj => omega
theorem path_ok : ∀ f k, PK (pathF f k) k
  | 0, 0 => rfl
  | 0, _ + 1 => trivial
  | _ + 1, 0 => rfl
  | f + 1, q + 1 => four_ok (p := pathF f (q / 4)) (path_ok f (q / 4)) rfl
def GetOk (X T : Type) (get : Pq → T → (X → A) → A) (R : T → (Nat → X) → Prop) (bd : Nat) : Prop := ∀ p k t f c, PK p k → R t f → Good (get p t c) → k < bd ∧ Good (c (f k))
def UpdOk (X T : Type) (upd : Pq → T → (X → (X → A) → A) → (T → A) → A) (R : T → (Nat → X) → Prop) (bd : Nat) : Prop :=
  ∀ p k t f u c, PK p k → R t f → Good (upd p t u c) → k < bd ∧ ∃ g : X → A, Good (u (f k) g) ∧ ∀ x, Good (g x) → ∃ t', R t' (fun j => if j = k then x else f j) ∧ Good (c t')
def RelS (X T : Type) (R : T → (Nat → X) → Prop) (t : Nd X T) (f : Nat → X) : Prop :=
  ∃ a b c d, t = (fun s => s (f 0) a b c d) ∧ R a (fun j => f (4 * j + 1)) ∧ R b (fun j => f (4 * j + 2)) ∧ R c (fun j => f (4 * j + 3)) ∧ R d (fun j => f (4 * j + 4))
theorem getS_ok {X T : Type} {ih : Pq → T → (X → A) → A} {R : T → (Nat → X) → Prop} {bd : Nat} (hi : GetOk X T ih R bd) : GetOk X (Nd X T) (stG X T ih) (RelS X T R) (4 * bd + 1) := by
  rintro p k t f c hp ⟨a, b, c', d, rfl, ra, rb, rc, rd⟩ h
  cases p with
  | z => have : k = 0 := hp; subst this; exact ⟨by omega, h⟩
  | a q => obtain ⟨j, rfl, hq⟩ := hp; obtain ⟨h1, h2⟩ := hi q j a _ c hq ra h; exact ⟨by omega, h2⟩
  | b q => obtain ⟨j, rfl, hq⟩ := hp; obtain ⟨h1, h2⟩ := hi q j b _ c hq rb h; exact ⟨by omega, h2⟩
  | c q => obtain ⟨j, rfl, hq⟩ := hp; obtain ⟨h1, h2⟩ := hi q j c' _ c hq rc h; exact ⟨by omega, h2⟩
  | d q => obtain ⟨j, rfl, hq⟩ := hp; obtain ⟨h1, h2⟩ := hi q j d _ c hq rd h; exact ⟨by omega, h2⟩
  | e => exact Good.no h
theorem fun_at {X : Type} {f : Nat → X} {x : X} {i j : Nat} : (fun q => if q = j then x else f (4 * q + i)) = (fun q => if 4 * q + i = 4 * j + i then x else f (4 * q + i)) := by
  funext q
  by_cases h : q = j
  · rw [if_pos h, if_pos (by omega)]
  · rw [if_neg h, if_neg (by omega)]
theorem fun_off {X : Type} {f : Nat → X} {x : X} {i k : Nat} (h : ∀ q, 4 * q + i ≠ k) : (fun q => f (4 * q + i)) = (fun q => if 4 * q + i = k then x else f (4 * q + i)) := by
  funext q
  rw [if_neg (h q)]
theorem updS_ok {X T : Type} {ih : Pq → T → (X → (X → A) → A) → (T → A) → A} {R : T → (Nat → X) → Prop} {bd : Nat} (hi : UpdOk X T ih R bd) : UpdOk X (Nd X T) (stS X T ih) (RelS X T R) (4 * bd + 1) := by
  rintro p k t f u c hp ⟨a, b, c', d, rfl, ra, rb, rc, rd⟩ h
  cases p with
  | z =>
    have : k = 0 := hp
    subst this
    exact ⟨by omega, _, h, fun x hx => ⟨_, ⟨a, b, c', d, rfl, by rw [← fun_off (by omega)]; exact ra, by rw [← fun_off (by omega)]; exact rb, by rw [← fun_off (by omega)]; exact rc, by rw [← fun_off (by omega)]; exact rd⟩, hx⟩⟩
  | a q =>
    obtain ⟨j, rfl, hq⟩ := hp
    obtain ⟨h1, g, h2, h3⟩ := hi q j a _ u _ hq ra h
    refine ⟨by omega, g, h2, fun x hx => ?_⟩
    obtain ⟨t', r', h4⟩ := h3 x hx
    exact ⟨_, ⟨t', b, c', d, by simp, by rw [← fun_at]; exact r', by rw [← fun_off (by omega)]; exact rb, by rw [← fun_off (by omega)]; exact rc, by rw [← fun_off (by omega)]; exact rd⟩, h4⟩
  | b q =>
    obtain ⟨j, rfl, hq⟩ := hp
    obtain ⟨h1, g, h2, h3⟩ := hi q j b _ u _ hq rb h
    refine ⟨by omega, g, h2, fun x hx => ?_⟩
    obtain ⟨t', r', h4⟩ := h3 x hx
    exact ⟨_, ⟨a, t', c', d, by simp, by rw [← fun_off (by omega)]; exact ra, by rw [← fun_at]; exact r', by rw [← fun_off (by omega)]; exact rc, by rw [← fun_off (by omega)]; exact rd⟩, h4⟩
  | c q =>
    obtain ⟨j, rfl, hq⟩ := hp
    obtain ⟨h1, g, h2, h3⟩ := hi q j c' _ u _ hq rc h
    refine ⟨by omega, g, h2, fun x hx => ?_⟩
    obtain ⟨t', r', h4⟩ := h3 x hx
    exact ⟨_, ⟨a, b, t', d, by simp, by rw [← fun_off (by omega)]; exact ra, by rw [← fun_off (by omega)]; exact rb, by rw [← fun_at]; exact r', by rw [← fun_off (by omega)]; exact rd⟩, h4⟩
  | d q =>
    obtain ⟨j, rfl, hq⟩ := hp
    obtain ⟨h1, g, h2, h3⟩ := hi q j d _ u _ hq rd h
    refine ⟨by omega, g, h2, fun x hx => ?_⟩
    obtain ⟨t', r', h4⟩ := h3 x hx
    exact ⟨_, ⟨a, b, c', t', by simp, by rw [← fun_off (by omega)]; exact ra, by rw [← fun_off (by omega)]; exact rb, by rw [← fun_off (by omega)]; exact rc, by rw [← fun_at]; exact r'⟩, h4⟩
  | e => exact Good.no h
end Go.Rn
