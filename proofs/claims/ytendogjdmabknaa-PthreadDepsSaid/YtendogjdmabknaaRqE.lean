/-
  One text of a symbolic evaluator over the model, shown sound once for every program: no statement is claimed here.
-/
import Derived.Test.YtendogjdmabknaaRqD
namespace Go.Rn
section
def RelC0 (_ : CT0) (_ : Nat → RV) : Prop := True
theorem getC0_ok : GetOk RV CT0 getC0 RelC0 0 := fun _ _ _ _ _ _ _ h => Good.no h
theorem updC0_ok : UpdOk RV CT0 updC0 RelC0 0 := fun _ _ _ _ _ _ _ _ h => Good.no h
theorem emC0_ok : RelC0 emC0 (fun _ => .un) := trivial
def RelC1 (t : CT1) (f : Nat → RV) : Prop := RelS RV CT0 RelC0 t f
theorem getC1_ok : GetOk RV CT1 getC1 RelC1 1 := getS_ok getC0_ok
theorem updC1_ok : UpdOk RV CT1 updC1 RelC1 1 := updS_ok updC0_ok
theorem emC1_ok : RelC1 emC1 (fun _ => .un) := ⟨_, _, _, _, rfl, emC0_ok, emC0_ok, emC0_ok, emC0_ok⟩
def RelC2 (t : CT2) (f : Nat → RV) : Prop := RelS RV CT1 RelC1 t f
theorem getC2_ok : GetOk RV CT2 getC2 RelC2 5 := getS_ok getC1_ok
theorem updC2_ok : UpdOk RV CT2 updC2 RelC2 5 := updS_ok updC1_ok
theorem emC2_ok : RelC2 emC2 (fun _ => .un) := ⟨_, _, _, _, rfl, emC1_ok, emC1_ok, emC1_ok, emC1_ok⟩
def RelC3 (t : CT3) (f : Nat → RV) : Prop := RelS RV CT2 RelC2 t f
theorem getC3_ok : GetOk RV CT3 getC3 RelC3 21 := getS_ok getC2_ok
theorem updC3_ok : UpdOk RV CT3 updC3 RelC3 21 := updS_ok updC2_ok
theorem emC3_ok : RelC3 emC3 (fun _ => .un) := ⟨_, _, _, _, rfl, emC2_ok, emC2_ok, emC2_ok, emC2_ok⟩
def RelC4 (t : CT4) (f : Nat → RV) : Prop := RelS RV CT3 RelC3 t f
theorem getC4_ok : GetOk RV CT4 getC4 RelC4 85 := getS_ok getC3_ok
theorem updC4_ok : UpdOk RV CT4 updC4 RelC4 85 := updS_ok updC3_ok
theorem emC4_ok : RelC4 emC4 (fun _ => .un) := ⟨_, _, _, _, rfl, emC3_ok, emC3_ok, emC3_ok, emC3_ok⟩
def RelC5 (t : CT5) (f : Nat → RV) : Prop := RelS RV CT4 RelC4 t f
theorem getC5_ok : GetOk RV CT5 getC5 RelC5 341 := getS_ok getC4_ok
theorem updC5_ok : UpdOk RV CT5 updC5 RelC5 341 := updS_ok updC4_ok
theorem emC5_ok : RelC5 emC5 (fun _ => .un) := ⟨_, _, _, _, rfl, emC4_ok, emC4_ok, emC4_ok, emC4_ok⟩
def RelC6 (t : CT6) (f : Nat → RV) : Prop := RelS RV CT5 RelC5 t f
theorem getC6_ok : GetOk RV CT6 getC6 RelC6 1365 := getS_ok getC5_ok
theorem updC6_ok : UpdOk RV CT6 updC6 RelC6 1365 := updS_ok updC5_ok
theorem emC6_ok : RelC6 emC6 (fun _ => .un) := ⟨_, _, _, _, rfl, emC5_ok, emC5_ok, emC5_ok, emC5_ok⟩
def RelC7 (t : CT7) (f : Nat → RV) : Prop := RelS RV CT6 RelC6 t f
theorem getC7_ok : GetOk RV CT7 getC7 RelC7 5461 := getS_ok getC6_ok
theorem updC7_ok : UpdOk RV CT7 updC7 RelC7 5461 := updS_ok updC6_ok
theorem emC7_ok : RelC7 emC7 (fun _ => .un) := ⟨_, _, _, _, rfl, emC6_ok, emC6_ok, emC6_ok, emC6_ok⟩
def RelH0 (_ : HT0) (_ : Nat → B3) : Prop := True
theorem getH0_ok : GetOk B3 HT0 getH0 RelH0 0 := fun _ _ _ _ _ _ _ h => Good.no h
theorem updH0_ok : UpdOk B3 HT0 updH0 RelH0 0 := fun _ _ _ _ _ _ _ _ h => Good.no h
theorem emH0_ok : RelH0 emH0 (fun _ => noB) := trivial
def RelH1 (t : HT1) (f : Nat → B3) : Prop := RelS B3 HT0 RelH0 t f
theorem getH1_ok : GetOk B3 HT1 getH1 RelH1 1 := getS_ok getH0_ok
theorem updH1_ok : UpdOk B3 HT1 updH1 RelH1 1 := updS_ok updH0_ok
theorem emH1_ok : RelH1 emH1 (fun _ => noB) := ⟨_, _, _, _, rfl, emH0_ok, emH0_ok, emH0_ok, emH0_ok⟩
def RelH2 (t : HT2) (f : Nat → B3) : Prop := RelS B3 HT1 RelH1 t f
theorem getH2_ok : GetOk B3 HT2 getH2 RelH2 5 := getS_ok getH1_ok
theorem updH2_ok : UpdOk B3 HT2 updH2 RelH2 5 := updS_ok updH1_ok
theorem emH2_ok : RelH2 emH2 (fun _ => noB) := ⟨_, _, _, _, rfl, emH1_ok, emH1_ok, emH1_ok, emH1_ok⟩
def RelH3 (t : HT3) (f : Nat → B3) : Prop := RelS B3 HT2 RelH2 t f
theorem getH3_ok : GetOk B3 HT3 getH3 RelH3 21 := getS_ok getH2_ok
theorem updH3_ok : UpdOk B3 HT3 updH3 RelH3 21 := updS_ok updH2_ok
theorem emH3_ok : RelH3 emH3 (fun _ => noB) := ⟨_, _, _, _, rfl, emH2_ok, emH2_ok, emH2_ok, emH2_ok⟩
def RelH4 (t : HT4) (f : Nat → B3) : Prop := RelS B3 HT3 RelH3 t f
theorem getH4_ok : GetOk B3 HT4 getH4 RelH4 85 := getS_ok getH3_ok
theorem updH4_ok : UpdOk B3 HT4 updH4 RelH4 85 := updS_ok updH3_ok
theorem emH4_ok : RelH4 emH4 (fun _ => noB) := ⟨_, _, _, _, rfl, emH3_ok, emH3_ok, emH3_ok, emH3_ok⟩
def RelH5 (t : HT5) (f : Nat → B3) : Prop := RelS B3 HT4 RelH4 t f
theorem getH5_ok : GetOk B3 HT5 getH5 RelH5 341 := getS_ok getH4_ok
theorem updH5_ok : UpdOk B3 HT5 updH5 RelH5 341 := updS_ok updH4_ok
theorem emH5_ok : RelH5 emH5 (fun _ => noB) := ⟨_, _, _, _, rfl, emH4_ok, emH4_ok, emH4_ok, emH4_ok⟩
def RelH6 (t : HT6) (f : Nat → B3) : Prop := RelS B3 HT5 RelH5 t f
theorem getH6_ok : GetOk B3 HT6 getH6 RelH6 1365 := getS_ok getH5_ok
theorem updH6_ok : UpdOk B3 HT6 updH6 RelH6 1365 := updS_ok updH5_ok
theorem emH6_ok : RelH6 emH6 (fun _ => noB) := ⟨_, _, _, _, rfl, emH5_ok, emH5_ok, emH5_ok, emH5_ok⟩
def RelH7 (t : HT7) (f : Nat → B3) : Prop := RelS B3 HT6 RelH6 t f
theorem getH7_ok : GetOk B3 HT7 getH7 RelH7 5461 := getS_ok getH6_ok
theorem updH7_ok : UpdOk B3 HT7 updH7 RelH7 5461 := updS_ok updH6_ok
theorem emH7_ok : RelH7 emH7 (fun _ => noB) := ⟨_, _, _, _, rfl, emH6_ok, emH6_ok, emH6_ok, emH6_ok⟩
def RelH8 (t : HT8) (f : Nat → B3) : Prop := RelS B3 HT7 RelH7 t f
theorem getH8_ok : GetOk B3 HT8 getH8 RelH8 21845 := getS_ok getH7_ok
theorem updH8_ok : UpdOk B3 HT8 updH8 RelH8 21845 := updS_ok updH7_ok
theorem emH8_ok : RelH8 emH8 (fun _ => noB) := ⟨_, _, _, _, rfl, emH7_ok, emH7_ok, emH7_ok, emH7_ok⟩
def RelH9 (t : HT9) (f : Nat → B3) : Prop := RelS B3 HT8 RelH8 t f
theorem getH9_ok : GetOk B3 HT9 getH9 RelH9 87381 := getS_ok getH8_ok
theorem updH9_ok : UpdOk B3 HT9 updH9 RelH9 87381 := updS_ok updH8_ok
theorem emH9_ok : RelH9 emH9 (fun _ => noB) := ⟨_, _, _, _, rfl, emH8_ok, emH8_ok, emH8_ok, emH8_ok⟩
end
attribute [local irreducible] HT9 CT7 RelC7 RelH9
/-! cells -/
def CRel (c3 : C3) (c : CT) : Prop := RelC7 c3 fun k => cg c k
theorem cst_at {c : CT} {x : RV} {k : Nat} (hk : k < 5461) (j : Nat) : cg (cst c x k) j = if j = k then x else cg c j := by
  by_cases h : j = k
  · rw [if_pos h, h]
    exact get_set_in .un c x (k + 1) (by omega) (by omega)
  · rw [if_neg h]
    rcases get_set (.un : RV) c x (k + 1) (j + 1) with ⟨h1, _⟩ | ⟨_, h1⟩
    · omega
    · exact h1
theorem cget_ok {c3 : C3} {c : CT} {o : Nat} {k : RV → A} (r : CRel c3 c) (h : Good (cget c3 o k)) : Good (k (cg c o)) := (getC7_ok _ o c3 (fun k => cg c k) k (path_ok 12 o) r h).2
theorem cupd_ok {c3 : C3} {c : CT} {o : Nat} {u : RV → (RV → A) → A} {k : C3 → A} (r : CRel c3 c) (h : Good (cupd c3 o u k)) :
    o < 5461 ∧ ∃ g, Good (u (cg c o) g) ∧ ∀ x, Good (g x) → ∃ c3', CRel c3' (cst c x o) ∧ Good (k c3') := by
  obtain ⟨h1, g, h2, h3⟩ := updC7_ok _ o c3 (fun k => cg c k) u k (path_ok 12 o) r h
  refine ⟨h1, g, h2, fun x hx => ?_⟩
  obtain ⟨t', r', h4⟩ := h3 x hx
  refine ⟨t', ?_, h4⟩
  show RelC7 t' fun j => cg (cst c x o) j
  rw [show (fun j => cg (cst c x o) j) = fun j => if j = o then x else cg c j from funext (cst_at h1)]
  exact r'
theorem ce3_ok : CRel ce3 ce := emC7_ok
/-! blocks -/
def BRel (b3 : B3) : RB → Prop
  | .no => b3 = noB
  | .bk c z => (z ≠ MAPZ ∧ ∃ c3, b3 = bkB c3 z ∧ CRel c3 c) ∨ (z = MAPZ ∧ ∃ c3, b3 = mpB c3 ∧ CRel c3 c)
def HRel (h3 : H3) (h : HT) : Prop := ∃ f, RelH9 h3 f ∧ ∀ b, BRel (f b) (hg h b)
theorem he3_ok : HRel he3 he := ⟨_, emH9_ok, fun _ => rfl⟩
theorem hst_at {h : HT} {x : RB} {k : Nat} (hk : k < 87381) (j : Nat) : hg (hst h x k) j = if j = k then x else hg h j := by
  by_cases e : j = k
  · rw [if_pos e, e]
    exact get_set_in .no h x (k + 1) (by omega) (by omega)
  · rw [if_neg e]
    rcases get_set (.no : RB) h x (k + 1) (j + 1) with ⟨h1, _⟩ | ⟨_, h1⟩
    · omega
    · exact h1
theorem hget_ok {h3 : H3} {h : HT} {b : Nat} {k : B3 → A} (r : HRel h3 h) (e : Good (hget h3 b k)) : ∃ b3, BRel b3 (hg h b) ∧ b < 87381 ∧ Good (k b3) := by
  obtain ⟨f, r1, r2⟩ := r
  obtain ⟨h1, h2⟩ := getH9_ok _ b h3 f k (path_ok 12 b) r1 e
  exact ⟨f b, r2 b, h1, h2⟩
theorem bkNo {b3 : B3} {rb : RB} {k : C3 → Nat → A} (r : BRel b3 rb) (h : Good (b3 .no noM k)) : ∃ c z c3, rb = .bk c z ∧ CRel c3 c ∧ Good (k c3 z) ∧ z ≠ MAPZ := by
  cases rb with
  | no => have : b3 = noB := r; subst this; exact Good.no h
  | bk c z =>
    rcases r with ⟨hz, c3, rfl, rc⟩ | ⟨_, c3, rfl, _⟩
    · exact ⟨c, z, c3, rfl, rc, h, hz⟩
    · exact Good.no h
/-- a map's block -/
theorem bkMp {b3 : B3} {rb : RB} {k : C3 → A} (r : BRel b3 rb) (h : Good (b3 .no k (fun _ _ => .no))) : ∃ c c3, rb = .bk c MAPZ ∧ CRel c3 c ∧ Good (k c3) := by
  cases rb with
  | no => have : b3 = noB := r; subst this; exact Good.no h
  | bk c z =>
    rcases r with ⟨_, c3, rfl, _⟩ | ⟨rfl, c3, rfl, rc⟩
    · exact Good.no h
    · exact ⟨c, c3, rfl, rc, h⟩
theorem gK_bk {α : Type} {d : α} {c : CT} {z : Nat} {k : CT → Nat → α} (hz : z ≠ MAPZ) : gK d (.bk c z) k = k c z := by
  have h : Nat.beq z MAPZ = false := by
    cases hq : Nat.beq z MAPZ with
    | false => rfl
    | true => exact absurd (Nat.eq_of_beq_eq_true hq) hz
  show bf (Nat.beq z MAPZ) d (k c z) = _
  rw [h]; rfl
theorem bf_t {α : Type} (y n : α) : bf true y n = y := rfl
theorem hgetB {h3 : H3} {h : HT} {b : Nat} {k : C3 → Nat → A} (r : HRel h3 h) (e : Good (hget h3 b fun bk => bk .no noM k)) : ∃ c z c3, hg h b = .bk c z ∧ CRel c3 c ∧ b < 87381 ∧ Good (k c3 z) ∧ z ≠ MAPZ := by
  obtain ⟨b3, r1, h0, h1⟩ := hget_ok r e
  obtain ⟨c, z, c3, h2, h3, h4, hz⟩ := bkNo r1 h1
  exact ⟨c, z, c3, h2, h3, h0, h4, hz⟩
theorem hupd_ok {h3 : H3} {h : HT} {b : Nat} {u : B3 → (B3 → A) → A} {k : H3 → A} (r : HRel h3 h) (e : Good (hupd h3 b u k)) :
    b < 87381 ∧ ∃ b3 g, BRel b3 (hg h b) ∧ Good (u b3 g) ∧ ∀ x rb, BRel x rb → Good (g x) → ∃ h3', HRel h3' (hst h rb b) ∧ Good (k h3') := by
  obtain ⟨f, r1, r2⟩ := r
  obtain ⟨h1, g, h2, h3⟩ := updH9_ok _ b h3 f u k (path_ok 12 b) r1 e
  refine ⟨h1, f b, g, r2 b, h2, fun x rb hx hg' => ?_⟩
  obtain ⟨t', r', h4⟩ := h3 x hg'
  refine ⟨t', ⟨_, r', fun j => ?_⟩, h4⟩
  rw [hst_at h1]
  by_cases hj : j = b
  · rw [if_pos hj, if_pos hj]; exact hx
  · rw [if_neg hj, if_neg hj]; exact r2 j
/-! frames -/
def FR (t3 : F3) (t : FT) : Prop := ∃ f, t3 = mkF f ∧ ∀ k, k < 576 → f k = T.get .un t (k + 1)
theorem f0_ok : FR f0 te := ⟨fun _ => .un, rfl, fun _ _ => rfl⟩
def GK (g : G3) (k : Nat) : Prop := ∀ f c, Good (g (mkF f) c) → Good (c (f k))
def SK (s : S3) (k : Nat) : Prop := ∀ f v c, Good (s (mkF f) v c) → k < 576 ∧ ∃ f', (∀ j, j < 576 → f' j = if j = k then v else f j) ∧ Good (c (mkF f'))
noncomputable def up (f : Nat → RV) (k : Nat) (v : RV) : Nat → RV := fun j => if j = k then v else f j
theorem gs00_ok : GK gs00 0 := fun _ _ h => h
theorem ss00_ok : SK ss00 0 := fun f v _ h => ⟨by omega, up f 0 v, fun _ _ => rfl, h⟩
theorem gs01_ok : GK gs01 1 := fun _ _ h => h
theorem ss01_ok : SK ss01 1 := fun f v _ h => ⟨by omega, up f 1 v, fun _ _ => rfl, h⟩
theorem gs02_ok : GK gs02 2 := fun _ _ h => h
theorem ss02_ok : SK ss02 2 := fun f v _ h => ⟨by omega, up f 2 v, fun _ _ => rfl, h⟩
theorem gs03_ok : GK gs03 3 := fun _ _ h => h
theorem ss03_ok : SK ss03 3 := fun f v _ h => ⟨by omega, up f 3 v, fun _ _ => rfl, h⟩
theorem gs04_ok : GK gs04 4 := fun _ _ h => h
theorem ss04_ok : SK ss04 4 := fun f v _ h => ⟨by omega, up f 4 v, fun _ _ => rfl, h⟩
theorem gs05_ok : GK gs05 5 := fun _ _ h => h
theorem ss05_ok : SK ss05 5 := fun f v _ h => ⟨by omega, up f 5 v, fun _ _ => rfl, h⟩
theorem gs06_ok : GK gs06 6 := fun _ _ h => h
theorem ss06_ok : SK ss06 6 := fun f v _ h => ⟨by omega, up f 6 v, fun _ _ => rfl, h⟩
theorem gs07_ok : GK gs07 7 := fun _ _ h => h
theorem ss07_ok : SK ss07 7 := fun f v _ h => ⟨by omega, up f 7 v, fun _ _ => rfl, h⟩
theorem gs10_ok : GK gs10 8 := fun _ _ h => h
theorem ss10_ok : SK ss10 8 := fun f v _ h => ⟨by omega, up f 8 v, fun _ _ => rfl, h⟩
theorem gs11_ok : GK gs11 9 := fun _ _ h => h
theorem ss11_ok : SK ss11 9 := fun f v _ h => ⟨by omega, up f 9 v, fun _ _ => rfl, h⟩
theorem gs12_ok : GK gs12 10 := fun _ _ h => h
theorem ss12_ok : SK ss12 10 := fun f v _ h => ⟨by omega, up f 10 v, fun _ _ => rfl, h⟩
theorem gs13_ok : GK gs13 11 := fun _ _ h => h
theorem ss13_ok : SK ss13 11 := fun f v _ h => ⟨by omega, up f 11 v, fun _ _ => rfl, h⟩
theorem gs14_ok : GK gs14 12 := fun _ _ h => h
theorem ss14_ok : SK ss14 12 := fun f v _ h => ⟨by omega, up f 12 v, fun _ _ => rfl, h⟩
theorem gs15_ok : GK gs15 13 := fun _ _ h => h
theorem ss15_ok : SK ss15 13 := fun f v _ h => ⟨by omega, up f 13 v, fun _ _ => rfl, h⟩
theorem gs16_ok : GK gs16 14 := fun _ _ h => h
theorem ss16_ok : SK ss16 14 := fun f v _ h => ⟨by omega, up f 14 v, fun _ _ => rfl, h⟩
theorem gs17_ok : GK gs17 15 := fun _ _ h => h
theorem ss17_ok : SK ss17 15 := fun f v _ h => ⟨by omega, up f 15 v, fun _ _ => rfl, h⟩
theorem gs20_ok : GK gs20 16 := fun _ _ h => h
theorem ss20_ok : SK ss20 16 := fun f v _ h => ⟨by omega, up f 16 v, fun _ _ => rfl, h⟩
theorem gs21_ok : GK gs21 17 := fun _ _ h => h
theorem ss21_ok : SK ss21 17 := fun f v _ h => ⟨by omega, up f 17 v, fun _ _ => rfl, h⟩
theorem gs22_ok : GK gs22 18 := fun _ _ h => h
theorem ss22_ok : SK ss22 18 := fun f v _ h => ⟨by omega, up f 18 v, fun _ _ => rfl, h⟩
theorem gs23_ok : GK gs23 19 := fun _ _ h => h
theorem ss23_ok : SK ss23 19 := fun f v _ h => ⟨by omega, up f 19 v, fun _ _ => rfl, h⟩
theorem gs24_ok : GK gs24 20 := fun _ _ h => h
theorem ss24_ok : SK ss24 20 := fun f v _ h => ⟨by omega, up f 20 v, fun _ _ => rfl, h⟩
theorem gs25_ok : GK gs25 21 := fun _ _ h => h
theorem ss25_ok : SK ss25 21 := fun f v _ h => ⟨by omega, up f 21 v, fun _ _ => rfl, h⟩
theorem gs26_ok : GK gs26 22 := fun _ _ h => h
theorem ss26_ok : SK ss26 22 := fun f v _ h => ⟨by omega, up f 22 v, fun _ _ => rfl, h⟩
theorem gs27_ok : GK gs27 23 := fun _ _ h => h
theorem ss27_ok : SK ss27 23 := fun f v _ h => ⟨by omega, up f 23 v, fun _ _ => rfl, h⟩
theorem gs30_ok : GK gs30 24 := fun _ _ h => h
theorem ss30_ok : SK ss30 24 := fun f v _ h => ⟨by omega, up f 24 v, fun _ _ => rfl, h⟩
theorem gs31_ok : GK gs31 25 := fun _ _ h => h
theorem ss31_ok : SK ss31 25 := fun f v _ h => ⟨by omega, up f 25 v, fun _ _ => rfl, h⟩
theorem gs32_ok : GK gs32 26 := fun _ _ h => h
theorem ss32_ok : SK ss32 26 := fun f v _ h => ⟨by omega, up f 26 v, fun _ _ => rfl, h⟩
theorem gs33_ok : GK gs33 27 := fun _ _ h => h
theorem ss33_ok : SK ss33 27 := fun f v _ h => ⟨by omega, up f 27 v, fun _ _ => rfl, h⟩
theorem gs34_ok : GK gs34 28 := fun _ _ h => h
theorem ss34_ok : SK ss34 28 := fun f v _ h => ⟨by omega, up f 28 v, fun _ _ => rfl, h⟩
theorem gs35_ok : GK gs35 29 := fun _ _ h => h
theorem ss35_ok : SK ss35 29 := fun f v _ h => ⟨by omega, up f 29 v, fun _ _ => rfl, h⟩
theorem gs36_ok : GK gs36 30 := fun _ _ h => h
theorem ss36_ok : SK ss36 30 := fun f v _ h => ⟨by omega, up f 30 v, fun _ _ => rfl, h⟩
theorem gs37_ok : GK gs37 31 := fun _ _ h => h
theorem ss37_ok : SK ss37 31 := fun f v _ h => ⟨by omega, up f 31 v, fun _ _ => rfl, h⟩
theorem gs40_ok : GK gs40 32 := fun _ _ h => h
theorem ss40_ok : SK ss40 32 := fun f v _ h => ⟨by omega, up f 32 v, fun _ _ => rfl, h⟩
theorem gs41_ok : GK gs41 33 := fun _ _ h => h
theorem ss41_ok : SK ss41 33 := fun f v _ h => ⟨by omega, up f 33 v, fun _ _ => rfl, h⟩
theorem gs42_ok : GK gs42 34 := fun _ _ h => h
theorem ss42_ok : SK ss42 34 := fun f v _ h => ⟨by omega, up f 34 v, fun _ _ => rfl, h⟩
theorem gs43_ok : GK gs43 35 := fun _ _ h => h
theorem ss43_ok : SK ss43 35 := fun f v _ h => ⟨by omega, up f 35 v, fun _ _ => rfl, h⟩
theorem gs44_ok : GK gs44 36 := fun _ _ h => h
theorem ss44_ok : SK ss44 36 := fun f v _ h => ⟨by omega, up f 36 v, fun _ _ => rfl, h⟩
theorem gs45_ok : GK gs45 37 := fun _ _ h => h
theorem ss45_ok : SK ss45 37 := fun f v _ h => ⟨by omega, up f 37 v, fun _ _ => rfl, h⟩
theorem gs46_ok : GK gs46 38 := fun _ _ h => h
theorem ss46_ok : SK ss46 38 := fun f v _ h => ⟨by omega, up f 38 v, fun _ _ => rfl, h⟩
theorem gs47_ok : GK gs47 39 := fun _ _ h => h
theorem ss47_ok : SK ss47 39 := fun f v _ h => ⟨by omega, up f 39 v, fun _ _ => rfl, h⟩
theorem gs50_ok : GK gs50 40 := fun _ _ h => h
theorem ss50_ok : SK ss50 40 := fun f v _ h => ⟨by omega, up f 40 v, fun _ _ => rfl, h⟩
theorem gs51_ok : GK gs51 41 := fun _ _ h => h
theorem ss51_ok : SK ss51 41 := fun f v _ h => ⟨by omega, up f 41 v, fun _ _ => rfl, h⟩
theorem gs52_ok : GK gs52 42 := fun _ _ h => h
theorem ss52_ok : SK ss52 42 := fun f v _ h => ⟨by omega, up f 42 v, fun _ _ => rfl, h⟩
theorem gs53_ok : GK gs53 43 := fun _ _ h => h
theorem ss53_ok : SK ss53 43 := fun f v _ h => ⟨by omega, up f 43 v, fun _ _ => rfl, h⟩
theorem gs54_ok : GK gs54 44 := fun _ _ h => h
theorem ss54_ok : SK ss54 44 := fun f v _ h => ⟨by omega, up f 44 v, fun _ _ => rfl, h⟩
theorem gs55_ok : GK gs55 45 := fun _ _ h => h
theorem ss55_ok : SK ss55 45 := fun f v _ h => ⟨by omega, up f 45 v, fun _ _ => rfl, h⟩
theorem gs56_ok : GK gs56 46 := fun _ _ h => h
theorem ss56_ok : SK ss56 46 := fun f v _ h => ⟨by omega, up f 46 v, fun _ _ => rfl, h⟩
theorem gs57_ok : GK gs57 47 := fun _ _ h => h
theorem ss57_ok : SK ss57 47 := fun f v _ h => ⟨by omega, up f 47 v, fun _ _ => rfl, h⟩
theorem gs60_ok : GK gs60 48 := fun _ _ h => h
theorem ss60_ok : SK ss60 48 := fun f v _ h => ⟨by omega, up f 48 v, fun _ _ => rfl, h⟩
theorem gs61_ok : GK gs61 49 := fun _ _ h => h
theorem ss61_ok : SK ss61 49 := fun f v _ h => ⟨by omega, up f 49 v, fun _ _ => rfl, h⟩
theorem gs62_ok : GK gs62 50 := fun _ _ h => h
theorem ss62_ok : SK ss62 50 := fun f v _ h => ⟨by omega, up f 50 v, fun _ _ => rfl, h⟩
theorem gs63_ok : GK gs63 51 := fun _ _ h => h
theorem ss63_ok : SK ss63 51 := fun f v _ h => ⟨by omega, up f 51 v, fun _ _ => rfl, h⟩
theorem gs64_ok : GK gs64 52 := fun _ _ h => h
theorem ss64_ok : SK ss64 52 := fun f v _ h => ⟨by omega, up f 52 v, fun _ _ => rfl, h⟩
theorem gs65_ok : GK gs65 53 := fun _ _ h => h
theorem ss65_ok : SK ss65 53 := fun f v _ h => ⟨by omega, up f 53 v, fun _ _ => rfl, h⟩
theorem gs66_ok : GK gs66 54 := fun _ _ h => h
theorem ss66_ok : SK ss66 54 := fun f v _ h => ⟨by omega, up f 54 v, fun _ _ => rfl, h⟩
theorem gs67_ok : GK gs67 55 := fun _ _ h => h
theorem ss67_ok : SK ss67 55 := fun f v _ h => ⟨by omega, up f 55 v, fun _ _ => rfl, h⟩
theorem gs70_ok : GK gs70 56 := fun _ _ h => h
theorem ss70_ok : SK ss70 56 := fun f v _ h => ⟨by omega, up f 56 v, fun _ _ => rfl, h⟩
theorem gs71_ok : GK gs71 57 := fun _ _ h => h
theorem ss71_ok : SK ss71 57 := fun f v _ h => ⟨by omega, up f 57 v, fun _ _ => rfl, h⟩
theorem gs72_ok : GK gs72 58 := fun _ _ h => h
theorem ss72_ok : SK ss72 58 := fun f v _ h => ⟨by omega, up f 58 v, fun _ _ => rfl, h⟩
theorem gs73_ok : GK gs73 59 := fun _ _ h => h
theorem ss73_ok : SK ss73 59 := fun f v _ h => ⟨by omega, up f 59 v, fun _ _ => rfl, h⟩
theorem gs74_ok : GK gs74 60 := fun _ _ h => h
theorem ss74_ok : SK ss74 60 := fun f v _ h => ⟨by omega, up f 60 v, fun _ _ => rfl, h⟩
theorem gs75_ok : GK gs75 61 := fun _ _ h => h
theorem ss75_ok : SK ss75 61 := fun f v _ h => ⟨by omega, up f 61 v, fun _ _ => rfl, h⟩
theorem gs76_ok : GK gs76 62 := fun _ _ h => h
theorem ss76_ok : SK ss76 62 := fun f v _ h => ⟨by omega, up f 62 v, fun _ _ => rfl, h⟩
theorem gs77_ok : GK gs77 63 := fun _ _ h => h
theorem ss77_ok : SK ss77 63 := fun f v _ h => ⟨by omega, up f 63 v, fun _ _ => rfl, h⟩
theorem small_g : ∀ i, i < 8 → ∀ j, j < 8 → ∃ g, getK (8 * i + j) = .mk g ∧ GK g (8 * i + j)
  | 0, _, 0, _ => ⟨_, rfl, gs00_ok⟩
  | 0, _, 1, _ => ⟨_, rfl, gs01_ok⟩
  | 0, _, 2, _ => ⟨_, rfl, gs02_ok⟩
  | 0, _, 3, _ => ⟨_, rfl, gs03_ok⟩
  | 0, _, 4, _ => ⟨_, rfl, gs04_ok⟩
  | 0, _, 5, _ => ⟨_, rfl, gs05_ok⟩
  | 0, _, 6, _ => ⟨_, rfl, gs06_ok⟩
  | 0, _, 7, _ => ⟨_, rfl, gs07_ok⟩
  | 1, _, 0, _ => ⟨_, rfl, gs10_ok⟩
  | 1, _, 1, _ => ⟨_, rfl, gs11_ok⟩
  | 1, _, 2, _ => ⟨_, rfl, gs12_ok⟩
  | 1, _, 3, _ => ⟨_, rfl, gs13_ok⟩
  | 1, _, 4, _ => ⟨_, rfl, gs14_ok⟩
  | 1, _, 5, _ => ⟨_, rfl, gs15_ok⟩
  | 1, _, 6, _ => ⟨_, rfl, gs16_ok⟩
  | 1, _, 7, _ => ⟨_, rfl, gs17_ok⟩
  | 2, _, 0, _ => ⟨_, rfl, gs20_ok⟩
  | 2, _, 1, _ => ⟨_, rfl, gs21_ok⟩
  | 2, _, 2, _ => ⟨_, rfl, gs22_ok⟩
  | 2, _, 3, _ => ⟨_, rfl, gs23_ok⟩
  | 2, _, 4, _ => ⟨_, rfl, gs24_ok⟩
  | 2, _, 5, _ => ⟨_, rfl, gs25_ok⟩
  | 2, _, 6, _ => ⟨_, rfl, gs26_ok⟩
  | 2, _, 7, _ => ⟨_, rfl, gs27_ok⟩
  | 3, _, 0, _ => ⟨_, rfl, gs30_ok⟩
  | 3, _, 1, _ => ⟨_, rfl, gs31_ok⟩
  | 3, _, 2, _ => ⟨_, rfl, gs32_ok⟩
  | 3, _, 3, _ => ⟨_, rfl, gs33_ok⟩
  | 3, _, 4, _ => ⟨_, rfl, gs34_ok⟩
  | 3, _, 5, _ => ⟨_, rfl, gs35_ok⟩
  | 3, _, 6, _ => ⟨_, rfl, gs36_ok⟩
  | 3, _, 7, _ => ⟨_, rfl, gs37_ok⟩
  | 4, _, 0, _ => ⟨_, rfl, gs40_ok⟩
  | 4, _, 1, _ => ⟨_, rfl, gs41_ok⟩
  | 4, _, 2, _ => ⟨_, rfl, gs42_ok⟩
  | 4, _, 3, _ => ⟨_, rfl, gs43_ok⟩
  | 4, _, 4, _ => ⟨_, rfl, gs44_ok⟩
  | 4, _, 5, _ => ⟨_, rfl, gs45_ok⟩
  | 4, _, 6, _ => ⟨_, rfl, gs46_ok⟩
  | 4, _, 7, _ => ⟨_, rfl, gs47_ok⟩
  | 5, _, 0, _ => ⟨_, rfl, gs50_ok⟩
  | 5, _, 1, _ => ⟨_, rfl, gs51_ok⟩
  | 5, _, 2, _ => ⟨_, rfl, gs52_ok⟩
  | 5, _, 3, _ => ⟨_, rfl, gs53_ok⟩
  | 5, _, 4, _ => ⟨_, rfl, gs54_ok⟩
  | 5, _, 5, _ => ⟨_, rfl, gs55_ok⟩
  | 5, _, 6, _ => ⟨_, rfl, gs56_ok⟩
  | 5, _, 7, _ => ⟨_, rfl, gs57_ok⟩
  | 6, _, 0, _ => ⟨_, rfl, gs60_ok⟩
  | 6, _, 1, _ => ⟨_, rfl, gs61_ok⟩
  | 6, _, 2, _ => ⟨_, rfl, gs62_ok⟩
  | 6, _, 3, _ => ⟨_, rfl, gs63_ok⟩
  | 6, _, 4, _ => ⟨_, rfl, gs64_ok⟩
  | 6, _, 5, _ => ⟨_, rfl, gs65_ok⟩
  | 6, _, 6, _ => ⟨_, rfl, gs66_ok⟩
  | 6, _, 7, _ => ⟨_, rfl, gs67_ok⟩
  | 7, _, 0, _ => ⟨_, rfl, gs70_ok⟩
  | 7, _, 1, _ => ⟨_, rfl, gs71_ok⟩
  | 7, _, 2, _ => ⟨_, rfl, gs72_ok⟩
  | 7, _, 3, _ => ⟨_, rfl, gs73_ok⟩
  | 7, _, 4, _ => ⟨_, rfl, gs74_ok⟩
  | 7, _, 5, _ => ⟨_, rfl, gs75_ok⟩
  | 7, _, 6, _ => ⟨_, rfl, gs76_ok⟩
  | 7, _, 7, _ => ⟨_, rfl, gs77_ok⟩
  | 0, _, j + 8, h => absurd h (by omega)
  | 1, _, j + 8, h => absurd h (by omega)
  | 2, _, j + 8, h => absurd h (by omega)
  | 3, _, j + 8, h => absurd h (by omega)
  | 4, _, j + 8, h => absurd h (by omega)
  | 5, _, j + 8, h => absurd h (by omega)
  | 6, _, j + 8, h => absurd h (by omega)
  | 7, _, j + 8, h => absurd h (by omega)
  | i + 8, h, _, _ => absurd h (by omega)
theorem small_s : ∀ i, i < 8 → ∀ j, j < 8 → ∃ g, setK (8 * i + j) = .mk g ∧ SK g (8 * i + j)
  | 0, _, 0, _ => ⟨_, rfl, ss00_ok⟩
  | 0, _, 1, _ => ⟨_, rfl, ss01_ok⟩
  | 0, _, 2, _ => ⟨_, rfl, ss02_ok⟩
  | 0, _, 3, _ => ⟨_, rfl, ss03_ok⟩
  | 0, _, 4, _ => ⟨_, rfl, ss04_ok⟩
  | 0, _, 5, _ => ⟨_, rfl, ss05_ok⟩
  | 0, _, 6, _ => ⟨_, rfl, ss06_ok⟩
  | 0, _, 7, _ => ⟨_, rfl, ss07_ok⟩
  | 1, _, 0, _ => ⟨_, rfl, ss10_ok⟩
  | 1, _, 1, _ => ⟨_, rfl, ss11_ok⟩
  | 1, _, 2, _ => ⟨_, rfl, ss12_ok⟩
  | 1, _, 3, _ => ⟨_, rfl, ss13_ok⟩
  | 1, _, 4, _ => ⟨_, rfl, ss14_ok⟩
  | 1, _, 5, _ => ⟨_, rfl, ss15_ok⟩
  | 1, _, 6, _ => ⟨_, rfl, ss16_ok⟩
  | 1, _, 7, _ => ⟨_, rfl, ss17_ok⟩
  | 2, _, 0, _ => ⟨_, rfl, ss20_ok⟩
  | 2, _, 1, _ => ⟨_, rfl, ss21_ok⟩
  | 2, _, 2, _ => ⟨_, rfl, ss22_ok⟩
  | 2, _, 3, _ => ⟨_, rfl, ss23_ok⟩
  | 2, _, 4, _ => ⟨_, rfl, ss24_ok⟩
  | 2, _, 5, _ => ⟨_, rfl, ss25_ok⟩
  | 2, _, 6, _ => ⟨_, rfl, ss26_ok⟩
  | 2, _, 7, _ => ⟨_, rfl, ss27_ok⟩
  | 3, _, 0, _ => ⟨_, rfl, ss30_ok⟩
  | 3, _, 1, _ => ⟨_, rfl, ss31_ok⟩
  | 3, _, 2, _ => ⟨_, rfl, ss32_ok⟩
  | 3, _, 3, _ => ⟨_, rfl, ss33_ok⟩
  | 3, _, 4, _ => ⟨_, rfl, ss34_ok⟩
  | 3, _, 5, _ => ⟨_, rfl, ss35_ok⟩
  | 3, _, 6, _ => ⟨_, rfl, ss36_ok⟩
  | 3, _, 7, _ => ⟨_, rfl, ss37_ok⟩
  | 4, _, 0, _ => ⟨_, rfl, ss40_ok⟩
  | 4, _, 1, _ => ⟨_, rfl, ss41_ok⟩
  | 4, _, 2, _ => ⟨_, rfl, ss42_ok⟩
  | 4, _, 3, _ => ⟨_, rfl, ss43_ok⟩
  | 4, _, 4, _ => ⟨_, rfl, ss44_ok⟩
  | 4, _, 5, _ => ⟨_, rfl, ss45_ok⟩
  | 4, _, 6, _ => ⟨_, rfl, ss46_ok⟩
  | 4, _, 7, _ => ⟨_, rfl, ss47_ok⟩
  | 5, _, 0, _ => ⟨_, rfl, ss50_ok⟩
  | 5, _, 1, _ => ⟨_, rfl, ss51_ok⟩
  | 5, _, 2, _ => ⟨_, rfl, ss52_ok⟩
  | 5, _, 3, _ => ⟨_, rfl, ss53_ok⟩
  | 5, _, 4, _ => ⟨_, rfl, ss54_ok⟩
  | 5, _, 5, _ => ⟨_, rfl, ss55_ok⟩
  | 5, _, 6, _ => ⟨_, rfl, ss56_ok⟩
  | 5, _, 7, _ => ⟨_, rfl, ss57_ok⟩
  | 6, _, 0, _ => ⟨_, rfl, ss60_ok⟩
  | 6, _, 1, _ => ⟨_, rfl, ss61_ok⟩
  | 6, _, 2, _ => ⟨_, rfl, ss62_ok⟩
  | 6, _, 3, _ => ⟨_, rfl, ss63_ok⟩
  | 6, _, 4, _ => ⟨_, rfl, ss64_ok⟩
  | 6, _, 5, _ => ⟨_, rfl, ss65_ok⟩
  | 6, _, 6, _ => ⟨_, rfl, ss66_ok⟩
  | 6, _, 7, _ => ⟨_, rfl, ss67_ok⟩
  | 7, _, 0, _ => ⟨_, rfl, ss70_ok⟩
  | 7, _, 1, _ => ⟨_, rfl, ss71_ok⟩
  | 7, _, 2, _ => ⟨_, rfl, ss72_ok⟩
  | 7, _, 3, _ => ⟨_, rfl, ss73_ok⟩
  | 7, _, 4, _ => ⟨_, rfl, ss74_ok⟩
  | 7, _, 5, _ => ⟨_, rfl, ss75_ok⟩
  | 7, _, 6, _ => ⟨_, rfl, ss76_ok⟩
  | 7, _, 7, _ => ⟨_, rfl, ss77_ok⟩
  | 0, _, j + 8, h => absurd h (by omega)
  | 1, _, j + 8, h => absurd h (by omega)
  | 2, _, j + 8, h => absurd h (by omega)
  | 3, _, j + 8, h => absurd h (by omega)
  | 4, _, j + 8, h => absurd h (by omega)
  | 5, _, j + 8, h => absurd h (by omega)
  | 6, _, j + 8, h => absurd h (by omega)
  | 7, _, j + 8, h => absurd h (by omega)
  | i + 8, h, _, _ => absurd h (by omega)
theorem pN_ok : ∀ i, i < 8 → ∀ f o (c : M8 → A), Good ((nth8 (fun _ _ => .no) pN0 pN1 pN2 pN3 pN4 pN5 pN6 pN7 i) (mkN f o) c) → Good (c (mkM f (o + 64 * i)))
  | 0, _, _, _, _, h => h
  | 1, _, _, _, _, h => h
  | 2, _, _, _, _, h => h
  | 3, _, _, _, _, h => h
  | 4, _, _, _, _, h => h
  | 5, _, _, _, _, h => h
  | 6, _, _, _, _, h => h
  | 7, _, _, _, _, h => h
  | i + 8, h, _, _, _, _ => absurd h (by omega)
theorem pM_ok : ∀ i, i < 8 → ∀ f o (c : L8 → A), Good ((nth8 (fun _ _ => .no) pM0 pM1 pM2 pM3 pM4 pM5 pM6 pM7 i) (mkM f o) c) → Good (c (mkL f (o + 8 * i)))
  | 0, _, _, _, _, h => h
  | 1, _, _, _, _, h => h
  | 2, _, _, _, _, h => h
  | 3, _, _, _, _, h => h
  | 4, _, _, _, _, h => h
  | 5, _, _, _, _, h => h
  | 6, _, _, _, _, h => h
  | 7, _, _, _, _, h => h
  | i + 8, h, _, _, _, _ => absurd h (by omega)
theorem pL_ok : ∀ i, i < 8 → ∀ f o (c : RV → A), Good ((nth8 (fun _ _ => .no) pL0 pL1 pL2 pL3 pL4 pL5 pL6 pL7 i) (mkL f o) c) → Good (c (f (o + i)))
  | 0, _, _, _, _, h => h
  | 1, _, _, _, _, h => h
  | 2, _, _, _, _, h => h
  | 3, _, _, _, _, h => h
  | 4, _, _, _, _, h => h
  | 5, _, _, _, _, h => h
  | 6, _, _, _, _, h => h
  | 7, _, _, _, _, h => h
  | i + 8, h, _, _, _, _ => absurd h (by omega)
end Go.Rn
