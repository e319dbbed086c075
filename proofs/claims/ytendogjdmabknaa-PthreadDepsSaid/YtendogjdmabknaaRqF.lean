/-
  One text of a symbolic evaluator over the model, shown sound once for every program: no statement is claimed here.
-/
import Derived.Test.YtendogjdmabknaaRqE
namespace Go.Rn
attribute [local irreducible] HT9 CT7 RelC7 RelH9
theorem mkL_up (f : Nat → RV) (p : Nat) (v : RV) (o : Nat) (h : p < o ∨ o + 8 ≤ p) : mkL (up f p v) o = mkL f o := by
  have e : ∀ j, o ≤ j → j < o + 8 → up f p v j = f j := fun j h1 h2 => if_neg (by omega)
  unfold mkL
  rw [e o (by omega) (by omega), e (o+1) (by omega) (by omega), e (o+2) (by omega) (by omega), e (o+3) (by omega) (by omega), e (o+4) (by omega) (by omega), e (o+5) (by omega) (by omega), e (o+6) (by omega) (by omega), e (o+7) (by omega) (by omega)]
theorem mkM_up (f : Nat → RV) (p : Nat) (v : RV) (o : Nat) (h : p < o ∨ o + 64 ≤ p) : mkM (up f p v) o = mkM f o := by
  unfold mkM
  rw [mkL_up f p v o (by omega), mkL_up f p v (o+8) (by omega), mkL_up f p v (o+16) (by omega), mkL_up f p v (o+24) (by omega), mkL_up f p v (o+32) (by omega), mkL_up f p v (o+40) (by omega), mkL_up f p v (o+48) (by omega), mkL_up f p v (o+56) (by omega)]
theorem up_at (f : Nat → RV) (p : Nat) (v : RV) : up f p v p = v := if_pos rfl
theorem up_ne (f : Nat → RV) (p : Nat) (v : RV) (j : Nat) (h : j ≠ p) : up f p v j = f j := if_neg h
theorem uL_ok : ∀ i, i < 8 → ∀ f o v c, Good ((nth8 (fun _ _ _ => .no) uL0 uL1 uL2 uL3 uL4 uL5 uL6 uL7 i) (mkL f o) (fun _ c => c v) c) → Good (c (mkL (up f (o + i) v) o))
  | 0, _, f, o, v, c, h => by
    unfold mkL
    rw [(show up f (o + 0) v o = v from up_at f o v), up_ne f (o + 0) v (o+1) (by omega), up_ne f (o + 0) v (o+2) (by omega), up_ne f (o + 0) v (o+3) (by omega), up_ne f (o + 0) v (o+4) (by omega), up_ne f (o + 0) v (o+5) (by omega), up_ne f (o + 0) v (o+6) (by omega), up_ne f (o + 0) v (o+7) (by omega)]
    exact h
  | 1, _, f, o, v, c, h => by
    unfold mkL
    rw [up_ne f (o + 1) v (o) (by omega), up_at f (o + 1) v, up_ne f (o + 1) v (o+2) (by omega), up_ne f (o + 1) v (o+3) (by omega), up_ne f (o + 1) v (o+4) (by omega), up_ne f (o + 1) v (o+5) (by omega), up_ne f (o + 1) v (o+6) (by omega), up_ne f (o + 1) v (o+7) (by omega)]
    exact h
  | 2, _, f, o, v, c, h => by
    unfold mkL
    rw [up_ne f (o + 2) v (o) (by omega), up_ne f (o + 2) v (o+1) (by omega), up_at f (o + 2) v, up_ne f (o + 2) v (o+3) (by omega), up_ne f (o + 2) v (o+4) (by omega), up_ne f (o + 2) v (o+5) (by omega), up_ne f (o + 2) v (o+6) (by omega), up_ne f (o + 2) v (o+7) (by omega)]
    exact h
  | 3, _, f, o, v, c, h => by
    unfold mkL
    rw [up_ne f (o + 3) v (o) (by omega), up_ne f (o + 3) v (o+1) (by omega), up_ne f (o + 3) v (o+2) (by omega), up_at f (o + 3) v, up_ne f (o + 3) v (o+4) (by omega), up_ne f (o + 3) v (o+5) (by omega), up_ne f (o + 3) v (o+6) (by omega), up_ne f (o + 3) v (o+7) (by omega)]
    exact h
  | 4, _, f, o, v, c, h => by
    unfold mkL
    rw [up_ne f (o + 4) v (o) (by omega), up_ne f (o + 4) v (o+1) (by omega), up_ne f (o + 4) v (o+2) (by omega), up_ne f (o + 4) v (o+3) (by omega), up_at f (o + 4) v, up_ne f (o + 4) v (o+5) (by omega), up_ne f (o + 4) v (o+6) (by omega), up_ne f (o + 4) v (o+7) (by omega)]
    exact h
  | 5, _, f, o, v, c, h => by
    unfold mkL
    rw [up_ne f (o + 5) v (o) (by omega), up_ne f (o + 5) v (o+1) (by omega), up_ne f (o + 5) v (o+2) (by omega), up_ne f (o + 5) v (o+3) (by omega), up_ne f (o + 5) v (o+4) (by omega), up_at f (o + 5) v, up_ne f (o + 5) v (o+6) (by omega), up_ne f (o + 5) v (o+7) (by omega)]
    exact h
  | 6, _, f, o, v, c, h => by
    unfold mkL
    rw [up_ne f (o + 6) v (o) (by omega), up_ne f (o + 6) v (o+1) (by omega), up_ne f (o + 6) v (o+2) (by omega), up_ne f (o + 6) v (o+3) (by omega), up_ne f (o + 6) v (o+4) (by omega), up_ne f (o + 6) v (o+5) (by omega), up_at f (o + 6) v, up_ne f (o + 6) v (o+7) (by omega)]
    exact h
  | 7, _, f, o, v, c, h => by
    unfold mkL
    rw [up_ne f (o + 7) v (o) (by omega), up_ne f (o + 7) v (o+1) (by omega), up_ne f (o + 7) v (o+2) (by omega), up_ne f (o + 7) v (o+3) (by omega), up_ne f (o + 7) v (o+4) (by omega), up_ne f (o + 7) v (o+5) (by omega), up_ne f (o + 7) v (o+6) (by omega), up_at f (o + 7) v]
    exact h
  | i + 8, h, _, _, _, _, _ => absurd h (by omega)
theorem uM_ok : ∀ i, i < 8 → ∀ f o p v (u : L8 → (L8 → A) → A) c, o + 8 * i ≤ p → p < o + 8 * i + 8 → Good ((nth8 (fun _ _ _ => .no) uM0 uM1 uM2 uM3 uM4 uM5 uM6 uM7 i) (mkM f o) u c) → ∃ g, Good (u (mkL f (o + 8 * i)) g) ∧ (Good (g (mkL (up f p v) (o + 8 * i))) → Good (c (mkM (up f p v) o)))
  | 0, _, f, o, p, v, u, c, h1, h2, h => ⟨_, h, fun h3 => by
    unfold mkM
    rw [mkL_up f p v (o+8) (by omega), mkL_up f p v (o+16) (by omega), mkL_up f p v (o+24) (by omega), mkL_up f p v (o+32) (by omega), mkL_up f p v (o+40) (by omega), mkL_up f p v (o+48) (by omega), mkL_up f p v (o+56) (by omega)]
    exact h3⟩
  | 1, _, f, o, p, v, u, c, h1, h2, h => ⟨_, h, fun h3 => by
    unfold mkM
    rw [mkL_up f p v o (by omega), mkL_up f p v (o+16) (by omega), mkL_up f p v (o+24) (by omega), mkL_up f p v (o+32) (by omega), mkL_up f p v (o+40) (by omega), mkL_up f p v (o+48) (by omega), mkL_up f p v (o+56) (by omega)]
    exact h3⟩
  | 2, _, f, o, p, v, u, c, h1, h2, h => ⟨_, h, fun h3 => by
    unfold mkM
    rw [mkL_up f p v o (by omega), mkL_up f p v (o+8) (by omega), mkL_up f p v (o+24) (by omega), mkL_up f p v (o+32) (by omega), mkL_up f p v (o+40) (by omega), mkL_up f p v (o+48) (by omega), mkL_up f p v (o+56) (by omega)]
    exact h3⟩
  | 3, _, f, o, p, v, u, c, h1, h2, h => ⟨_, h, fun h3 => by
    unfold mkM
    rw [mkL_up f p v o (by omega), mkL_up f p v (o+8) (by omega), mkL_up f p v (o+16) (by omega), mkL_up f p v (o+32) (by omega), mkL_up f p v (o+40) (by omega), mkL_up f p v (o+48) (by omega), mkL_up f p v (o+56) (by omega)]
    exact h3⟩
  | 4, _, f, o, p, v, u, c, h1, h2, h => ⟨_, h, fun h3 => by
    unfold mkM
    rw [mkL_up f p v o (by omega), mkL_up f p v (o+8) (by omega), mkL_up f p v (o+16) (by omega), mkL_up f p v (o+24) (by omega), mkL_up f p v (o+40) (by omega), mkL_up f p v (o+48) (by omega), mkL_up f p v (o+56) (by omega)]
    exact h3⟩
  | 5, _, f, o, p, v, u, c, h1, h2, h => ⟨_, h, fun h3 => by
    unfold mkM
    rw [mkL_up f p v o (by omega), mkL_up f p v (o+8) (by omega), mkL_up f p v (o+16) (by omega), mkL_up f p v (o+24) (by omega), mkL_up f p v (o+32) (by omega), mkL_up f p v (o+48) (by omega), mkL_up f p v (o+56) (by omega)]
    exact h3⟩
  | 6, _, f, o, p, v, u, c, h1, h2, h => ⟨_, h, fun h3 => by
    unfold mkM
    rw [mkL_up f p v o (by omega), mkL_up f p v (o+8) (by omega), mkL_up f p v (o+16) (by omega), mkL_up f p v (o+24) (by omega), mkL_up f p v (o+32) (by omega), mkL_up f p v (o+40) (by omega), mkL_up f p v (o+56) (by omega)]
    exact h3⟩
  | 7, _, f, o, p, v, u, c, h1, h2, h => ⟨_, h, fun h3 => by
    unfold mkM
    rw [mkL_up f p v o (by omega), mkL_up f p v (o+8) (by omega), mkL_up f p v (o+16) (by omega), mkL_up f p v (o+24) (by omega), mkL_up f p v (o+32) (by omega), mkL_up f p v (o+40) (by omega), mkL_up f p v (o+48) (by omega)]
    exact h3⟩
  | i + 8, h, _, _, _, _, _, _, _, _, _ => absurd h (by omega)
theorem uN_ok : ∀ i, i < 8 → ∀ f o p v (u : M8 → (M8 → A) → A) c, o + 64 * i ≤ p → p < o + 64 * i + 64 → Good ((nth8 (fun _ _ _ => .no) uN0 uN1 uN2 uN3 uN4 uN5 uN6 uN7 i) (mkN f o) u c) → ∃ g, Good (u (mkM f (o + 64 * i)) g) ∧ (Good (g (mkM (up f p v) (o + 64 * i))) → Good (c (mkN (up f p v) o)))
  | 0, _, f, o, p, v, u, c, h1, h2, h => ⟨_, h, fun h3 => by
    unfold mkN
    rw [mkM_up f p v (o+64) (by omega), mkM_up f p v (o+128) (by omega), mkM_up f p v (o+192) (by omega), mkM_up f p v (o+256) (by omega), mkM_up f p v (o+320) (by omega), mkM_up f p v (o+384) (by omega), mkM_up f p v (o+448) (by omega)]
    exact h3⟩
  | 1, _, f, o, p, v, u, c, h1, h2, h => ⟨_, h, fun h3 => by
    unfold mkN
    rw [mkM_up f p v o (by omega), mkM_up f p v (o+128) (by omega), mkM_up f p v (o+192) (by omega), mkM_up f p v (o+256) (by omega), mkM_up f p v (o+320) (by omega), mkM_up f p v (o+384) (by omega), mkM_up f p v (o+448) (by omega)]
    exact h3⟩
  | 2, _, f, o, p, v, u, c, h1, h2, h => ⟨_, h, fun h3 => by
    unfold mkN
    rw [mkM_up f p v o (by omega), mkM_up f p v (o+64) (by omega), mkM_up f p v (o+192) (by omega), mkM_up f p v (o+256) (by omega), mkM_up f p v (o+320) (by omega), mkM_up f p v (o+384) (by omega), mkM_up f p v (o+448) (by omega)]
    exact h3⟩
  | 3, _, f, o, p, v, u, c, h1, h2, h => ⟨_, h, fun h3 => by
    unfold mkN
    rw [mkM_up f p v o (by omega), mkM_up f p v (o+64) (by omega), mkM_up f p v (o+128) (by omega), mkM_up f p v (o+256) (by omega), mkM_up f p v (o+320) (by omega), mkM_up f p v (o+384) (by omega), mkM_up f p v (o+448) (by omega)]
    exact h3⟩
  | 4, _, f, o, p, v, u, c, h1, h2, h => ⟨_, h, fun h3 => by
    unfold mkN
    rw [mkM_up f p v o (by omega), mkM_up f p v (o+64) (by omega), mkM_up f p v (o+128) (by omega), mkM_up f p v (o+192) (by omega), mkM_up f p v (o+320) (by omega), mkM_up f p v (o+384) (by omega), mkM_up f p v (o+448) (by omega)]
    exact h3⟩
  | 5, _, f, o, p, v, u, c, h1, h2, h => ⟨_, h, fun h3 => by
    unfold mkN
    rw [mkM_up f p v o (by omega), mkM_up f p v (o+64) (by omega), mkM_up f p v (o+128) (by omega), mkM_up f p v (o+192) (by omega), mkM_up f p v (o+256) (by omega), mkM_up f p v (o+384) (by omega), mkM_up f p v (o+448) (by omega)]
    exact h3⟩
  | 6, _, f, o, p, v, u, c, h1, h2, h => ⟨_, h, fun h3 => by
    unfold mkN
    rw [mkM_up f p v o (by omega), mkM_up f p v (o+64) (by omega), mkM_up f p v (o+128) (by omega), mkM_up f p v (o+192) (by omega), mkM_up f p v (o+256) (by omega), mkM_up f p v (o+320) (by omega), mkM_up f p v (o+448) (by omega)]
    exact h3⟩
  | 7, _, f, o, p, v, u, c, h1, h2, h => ⟨_, h, fun h3 => by
    unfold mkN
    rw [mkM_up f p v o (by omega), mkM_up f p v (o+64) (by omega), mkM_up f p v (o+128) (by omega), mkM_up f p v (o+192) (by omega), mkM_up f p v (o+256) (by omega), mkM_up f p v (o+320) (by omega), mkM_up f p v (o+384) (by omega)]
    exact h3⟩
  | i + 8, h, _, _, _, _, _, _, _, _, _ => absurd h (by omega)
theorem big_k {k : Nat} (h1 : ¬ k < 64) (h2 : k < 576) : getK k = .mk (gBig ((nth8 (fun _ _ => .no) pN0 pN1 pN2 pN3 pN4 pN5 pN6 pN7) ((k - 64) / 64)) ((nth8 (fun _ _ => .no) pM0 pM1 pM2 pM3 pM4 pM5 pM6 pM7) ((k - 64) / 8 % 8)) ((nth8 (fun _ _ => .no) pL0 pL1 pL2 pL3 pL4 pL5 pL6 pL7) ((k - 64) % 8))) := by
  have e1 : Nat.ble k 63 = false := by
    cases h : Nat.ble k 63 with
    | false => rfl
    | true => exact absurd (Nat.le_of_ble_eq_true h) (by omega)
  have e2 : Nat.ble k 575 = true := Nat.ble_eq_true_of_le (by omega)
  unfold getK
  rw [e1, e2]
  rfl
theorem big_s {k : Nat} (h1 : ¬ k < 64) (h2 : k < 576) : setK k = .mk (sBig ((nth8 (fun _ _ _ => .no) uN0 uN1 uN2 uN3 uN4 uN5 uN6 uN7) ((k - 64) / 64)) ((nth8 (fun _ _ _ => .no) uM0 uM1 uM2 uM3 uM4 uM5 uM6 uM7) ((k - 64) / 8 % 8)) ((nth8 (fun _ _ _ => .no) uL0 uL1 uL2 uL3 uL4 uL5 uL6 uL7) ((k - 64) % 8))) := by
  have e1 : Nat.ble k 63 = false := by
    cases h : Nat.ble k 63 with
    | false => rfl
    | true => exact absurd (Nat.le_of_ble_eq_true h) (by omega)
  have e2 : Nat.ble k 575 = true := Nat.ble_eq_true_of_le (by omega)
  unfold setK
  rw [e1, e2]
  rfl
theorem far_k {k : Nat} (h2 : ¬ k < 576) : getK k = .mk (fun _ _ => .no) := by
  have e1 : Nat.ble k 63 = false := by
    cases h : Nat.ble k 63 with
    | false => rfl
    | true => exact absurd (Nat.le_of_ble_eq_true h) (by omega)
  have e2 : Nat.ble k 575 = false := by
    cases h : Nat.ble k 575 with
    | false => rfl
    | true => exact absurd (Nat.le_of_ble_eq_true h) (by omega)
  unfold getK
  rw [e1, e2]
  rfl
theorem far_s {k : Nat} (h2 : ¬ k < 576) : setK k = .mk (fun _ _ _ => .no) := by
  have e1 : Nat.ble k 63 = false := by
    cases h : Nat.ble k 63 with
    | false => rfl
    | true => exact absurd (Nat.le_of_ble_eq_true h) (by omega)
  have e2 : Nat.ble k 575 = false := by
    cases h : Nat.ble k 575 with
    | false => rfl
    | true => exact absurd (Nat.le_of_ble_eq_true h) (by omega)
  unfold setK
  rw [e1, e2]
  rfl
theorem getK_gk (k : Nat) : ∃ g, getK k = .mk g ∧ (GK g k ∨ ∀ t c, Good (g t c) → False) := by
  by_cases h1 : k < 64
  · obtain ⟨g, e, hg⟩ := small_g (k / 8) (by omega) (k % 8) (by omega)
    rw [show 8 * (k / 8) + k % 8 = k by omega] at e hg
    exact ⟨g, e, .inl hg⟩
  · by_cases h2 : k < 576
    · refine ⟨_, big_k h1 h2, .inl fun f c h => ?_⟩
      have h3 := pN_ok ((k - 64) / 64) (by omega) f 64 _ h
      have h4 := pM_ok ((k - 64) / 8 % 8) (by omega) f _ _ h3
      have h5 := pL_ok ((k - 64) % 8) (by omega) f _ _ h4
      rw [show 64 + 64 * ((k - 64) / 64) + 8 * ((k - 64) / 8 % 8) + (k - 64) % 8 = k by omega] at h5
      exact h5
    · exact ⟨_, far_k h2, .inr fun _ _ h => Good.no h⟩
theorem setK_sk (k : Nat) : ∃ s, setK k = .mk s ∧ SK s k := by
  by_cases h1 : k < 64
  · obtain ⟨g, e, hg⟩ := small_s (k / 8) (by omega) (k % 8) (by omega)
    rw [show 8 * (k / 8) + k % 8 = k by omega] at e hg
    exact ⟨g, e, hg⟩
  · by_cases h2 : k < 576
    · refine ⟨_, big_s h1 h2, fun f v c h => ⟨h2, up f k v, fun _ _ => rfl, ?_⟩⟩
      obtain ⟨g1, h3, h4⟩ := uN_ok ((k - 64) / 64) (by omega) f 64 k v _ _ (by omega) (by omega) h
      obtain ⟨g2, h5, h6⟩ := uM_ok ((k - 64) / 8 % 8) (by omega) f _ k v _ _ (by omega) (by omega) h3
      have h7 := uL_ok ((k - 64) % 8) (by omega) f _ v _ h5
      rw [show 64 + 64 * ((k - 64) / 64) + 8 * ((k - 64) / 8 % 8) + (k - 64) % 8 = k by omega] at h7
      have h8 := h4 (h6 h7)
      show Good (c (mkF (up f k v)))
      unfold mkF
      rw [mkL_up f k v 0 (by omega), mkL_up f k v 8 (by omega), mkL_up f k v 16 (by omega), mkL_up f k v 24 (by omega), mkL_up f k v 32 (by omega), mkL_up f k v 40 (by omega), mkL_up f k v 48 (by omega), mkL_up f k v 56 (by omega)]
      exact h8
    · exact ⟨_, far_s h2, fun _ _ _ h => Good.no h⟩
/-- a way to read, to write a frame -/
def GOk (g : G3) (e : FT → RV) : Prop := ∀ t3 t c, FR t3 t → Good (g t3 c) → Good (c (e t))
def SOk (s : S3) (put : FT → RV → FT) : Prop := ∀ t3 t v c, FR t3 t → Good (s t3 v c) → ∃ t3', FR t3' (put t v) ∧ Good (c t3')
theorem getP_ok (p : Pa) : ∃ g, getK (Nat.sub (Pa.val p) 1) = .mk g ∧ GOk g fun t => tg t p := by
  obtain ⟨g, e, hg⟩ := getK_gk (p.val - 1)
  refine ⟨g, e, ?_⟩
  rintro t3 t c ⟨f, rfl, hf⟩ h
  rcases hg with hg | hg
  · have h1 := hg f c h
    have hp := p.val_pos
    by_cases hk : p.val - 1 < 576
    · rw [hf _ hk, show p.val - 1 + 1 = p.val by omega] at h1
      show Good (c (T.getP .un t p))
      rw [getP_eq]
      exact h1
    · rw [far_k hk] at e
      cases e
      exact Good.no h
  · exact (hg _ _ h).elim
theorem FR.set {f : Nat → RV} {t t' : FT} {k : Nat} {v : RV} (hf : ∀ j, j < 576 → f j = T.get .un t (j + 1)) (ht : ∀ j, j < 576 → T.get .un t' (j + 1) = if j = k then v else T.get .un t (j + 1)) {f' : Nat → RV} (h : ∀ j, j < 576 → f' j = if j = k then v else f j) : FR (mkF f') t' :=
  ⟨f', rfl, fun j hj => by rw [h j hj, ht j hj, hf j hj]⟩
theorem setP_ok (p : Pa) : ∃ s, setK (Nat.sub (Pa.val p) 1) = .mk s ∧ SOk s fun t v => tst t v p := by
  obtain ⟨s, e, hs⟩ := setK_sk (p.val - 1)
  refine ⟨s, e, ?_⟩
  rintro t3 t v c ⟨f, rfl, hf⟩ h
  obtain ⟨hk, f', h1, h2⟩ := hs f v c h
  have hp := p.val_pos
  refine ⟨_, FR.set hf (fun j hj => ?_) h1, h2⟩
  show T.get .un (T.setP .un t v p) (j + 1) = _
  rw [setP_get]
  by_cases q : j = p.val - 1
  · rw [if_pos q, if_pos (by omega)]
  · rw [if_neg q, if_neg (by omega)]
theorem setC_ok (i : Nat) : ∃ s, setK i = .mk s ∧ SOk s fun t v => cst t v i := by
  obtain ⟨s, e, hs⟩ := setK_sk i
  refine ⟨s, e, ?_⟩
  rintro t3 t v c ⟨f, rfl, hf⟩ h
  obtain ⟨hk, f', h1, h2⟩ := hs f v c h
  exact ⟨_, FR.set hf (fun j hj => cst_at (show i < 5461 by omega) j) h1, h2⟩
end Go.Rn
