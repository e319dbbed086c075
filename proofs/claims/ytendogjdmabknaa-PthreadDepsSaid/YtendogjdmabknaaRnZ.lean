/-
  One text of a symbolic evaluator over the model, shown sound once for every program: no statement is claimed here.
-/
import Derived.Test.YtendogjdmabknaaRnY
namespace Go.Rn
variable {ρ : Nat → Int} {P : Program}
variable {g fl nt : Nat} {ys : Ys} {cl : Cl'}
theorem effs_mono {l : List RQ} {i : Nat} : ∀ k, i ≤ k → k ≤ l.length → effs l i ≤ effs l k
  | 0, h, _ => by rw [show i = 0 by omega]; exact Nat.le_refl _
  | k + 1, h, hk => by
    rcases Nat.lt_or_ge k i with p | p
    · rw [show i = k + 1 by omega]; exact Nat.le_refl _
    · rw [effs_succ l k _ (List.getElem?_eq_getElem (show k < l.length by omega))]
      have := effs_mono (l := l) (i := i) k p (by omega)
      omega
theorem effs_lt {l : List RQ} {i k : Nat} {q : RQ} (h : l[i]? = some q) (he : isEf q = true) (hik : i < k) (hk : k ≤ l.length) : effs l i < effs l k := by
  have h1 := effs_succ l i q h
  rw [he] at h1
  have h2 := effs_mono (l := l) (i := i + 1) k hik hk
  simp at h1
  omega
theorem effs_ex {l : List RQ} {j : Nat} : ∀ k, k ≤ l.length → j < effs l k → ∃ e q, e < k ∧ l[e]? = some q ∧ isEf q = true ∧ effs l e = j
  | 0, _, h => by cases l <;> simp [effs] at h
  | k + 1, hk, h => by
    have hq := List.getElem?_eq_getElem (show k < l.length by omega)
    have h1 := effs_succ l k _ hq
    cases hef : isEf l[k] with
    | false =>
      rw [hef] at h1
      obtain ⟨e, q, a, b⟩ := effs_ex (l := l) (j := j) k (by omega) (by simp at h1; omega)
      exact ⟨e, q, by omega, b⟩
    | true =>
      rw [hef] at h1
      by_cases hj : effs l k = j
      · exact ⟨k, _, by omega, hq, hef, hj⟩
      · obtain ⟨e, q, a, b⟩ := effs_ex (l := l) (j := j) k (by omega) (by simp at h1; omega)
        exact ⟨e, q, by omega, b⟩
section
variable {os : Array Oper} {l : List RQ} {V : Nat → FT} {H : Nat → HT} {N : Nat → Nat} {R : Nat → RV} {csF : List CK} {hsF : List HT} {bf : List Nat}
/-- some operations done, in whatever order -/
structure Inv (P : Program) (ρ : Nat → Int) (g fl nt : Nat) (os : Array Oper) (l : List RQ) (V : Nat → FT) (H : Nat → HT) (N : Nat → Nat) (R : Nat → RV) (a0 : Act) (m0 : Mp) (w0 : World) (S : Nat → Bool) (j : Nat) (Hc : HT) (m : Mp) (a : Act) (w : World) : Prop where
  shut : Shut os.toList S
  defers : a.defers = a0.defers
  fr : Fr P ρ m nt (ts l (V 0) R S l.length) a.tmps
  tr : Tr P ρ g fl (H 0) (N 0) m0 w0 Hc (N l.length) m w
  je : j ≤ effs l l.length
  ej : ∀ i q, l[i]? = some q → isEf q = true → (S i = true ↔ effs l i < j)
  c1 : ∀ x, ((x = 0 ∧ j = 0) ∨ ∃ e q, x = e + 1 ∧ l[e]? = some q ∧ isEf q = true ∧ effs l e + 1 = j) → ∀ b c z, hg (H x) b = .bk c z → hg Hc b = .bk c z
  c2 : ∀ k q, l[k]? = some q → isEf q = false → S k = true → j ≤ effs l k → N k < N (k + 1) → ∀ c z, hg (H (k + 1)) (N k) = .bk c z → hg Hc (N k) = .bk c z
  fresh : ∀ k, k < l.length → S k = false → Fresh (N k) (N (k + 1)) m
theorem Shut.add {S : Nat → Bool} {os : List Oper} (hS : Shut os S) {i : Nat} (hi : Up os S i) : Shut os (add1 S i) := by
  intro z hz o ho e he hb
  have up : ∀ x, S x = true → add1 S i x = true := fun x hx => by unfold add1; split <;> first | rfl | exact hx
  by_cases hzi : z = i
  · subst hzi; exact up _ (hi o ho e he hb)
  · have : S z = true := by unfold add1 at hz; rwa [if_neg hzi] at hz
    exact up _ (hS z this o ho e he hb)
theorem add1_ne {S : Nat → Bool} {i k : Nat} (h : k ≠ i) : add1 S i k = S k := by unfold add1; rw [if_neg h]
theorem add1_self {S : Nat → Bool} {i : Nat} : add1 S i i = true := by unfold add1; rw [if_pos rfl]
variable (D : Dw P fl nt ys cl os l V H N R csF hsF bf) (hcl : ClAb g cl) (hgf : g ≤ fl) (hf : fl ≤ N 0)
variable {a0 : Act} {m0 : Mp} {w0 : World} {S : Nat → Bool} {j : Nat} {Hc : HT} {m : Mp} {a : Act} {w : World}
variable (I : Inv P ρ g fl nt os l V H N R a0 m0 w0 S j Hc m a w)
include D hcl hgf hf I
theorem Inv.fresh_next {i : Nat} (hi : i < l.length) {m' : Mp} (x : Ext (N i) (N (i + 1)) m m') : ∀ k, k < l.length → add1 S i k = false → Fresh (N k) (N (k + 1)) m' := by
  intro k hk hSk b h1 h2
  have hne : k ≠ i := fun q => by subst q; rw [add1_self] at hSk; cases hSk
  rw [add1_ne hne] at hSk
  have := I.fresh k hk hSk b h1 h2
  rcases Nat.lt_or_ge k i with p | p
  · have := D.mono hcl hgf hf (i := k + 1) i p (by omega)
    rw [x b (.inl (by omega))]; assumption
  · have := D.mono hcl hgf hf (i := i + 1) k (by omega) (by omega)
    rw [x b (.inr (by omega))]; assumption
theorem Inv.fr_next {i : Nat} (hi : i < l.length) (hi0 : S i = false) {m' : Mp} (x : Ext (N i) (N (i + 1)) m m') {dst : Option Tmp} (hd : compDst nt dst = some (dOf l i)) {u : Value} (hu : den ρ m' (R i) u) :
    Fr P ρ m' nt (ts l (V 0) R (add1 S i) l.length) (a.put dst u).tmps := by
  have _ := hcl
  have _ := hgf
  have _ := hf
  have hle := x.le (I.fresh i hi hi0)
  refine ((I.fr.le hle).putD hd hu).same fun k => ?_
  rw [D.ts_put I.shut hi hi0 _ (Nat.le_refl _), put_get]
  by_cases hb : (dm (dOf l i)).testBit (k + 1) = true
  · rw [if_pos ⟨hi, hb⟩, if_pos hb]
  · rw [if_neg (fun q => hb q.2), if_neg hb]
theorem Inv.quiet {i : Nat} {q : RQ} (hq : l[i]? = some q) (he : isEf q = false) (hi0 : S i = false) (hup : Up os.toList S i) {m' : Mp} {w' : World} {Hc' : HT} (B : Tr P ρ g fl Hc (N i) m w Hc' (N (i + 1)) m' w') {dst : Option Tmp}
    (hd : compDst nt dst = some (dOf l i)) {u : Value} (hu : den ρ m' (R i) u) (sup : ∀ b c z, hg Hc b = .bk c z → hg Hc' b = .bk c z) (h2 : N i < N (i + 1) → ∀ c z, hg (H (i + 1)) (N i) = .bk c z → hg Hc' (N i) = .bk c z) :
    Inv P ρ g fl nt os l V H N R a0 m0 w0 (add1 S i) j Hc' m' (a.put dst u) w' := by
  have hi : i < l.length := by
    rcases Nat.lt_or_ge i l.length with p | p
    · exact p
    · rw [List.getElem?_eq_none p] at hq; cases hq
  have hN0 := D.mono hcl hgf hf (i := 0) i (Nat.zero_le _) (by omega)
  have hN1 := D.mono hcl hgf hf (i := i + 1) l.length hi (Nat.le_refl _)
  refine ⟨I.shut.add hup, (put_defers _ _ _).trans I.defers, I.fr_next D hcl hgf hf hi hi0 B.ext hd hu, I.tr.then B hN0 hN1, I.je, fun k qk hk hek => ?_, fun x hx b c z hb => sup _ _ _ (I.c1 x hx b c z hb), fun k qk hk hek hSk hjk hNk c z hb => ?_, I.fresh_next D hcl hgf hf hi B.ext⟩
  · have hne : k ≠ i := fun p => by subst p; rw [hq] at hk; cases hk; rw [he] at hek; cases hek
    rw [add1_ne hne]; exact I.ej k qk hk hek
  · by_cases hki : k = i
    · subst hki; exact h2 hNk c z hb
    · rw [add1_ne hki] at hSk
      exact sup _ _ _ (I.c2 k qk hk hek hSk hjk hNk c z hb)
theorem Inv.eff {i : Nat} {q : RQ} (hq : l[i]? = some q) (he : isEf q = true) (hi0 : S i = false) (hup : Up os.toList S i) (hE : effs l i = j) (s0 : Sim P ρ m0 g (H 0) w0) (f0 : Fresh (N 0) (N l.length) m0)
    (sub : ∀ b c z, hg (H i) b = .bk c z → hg Hc b = .bk c z) {m' : Mp} {w' : World} (B : Tr P ρ g fl (H i) (N i) m w (H (i + 1)) (N (i + 1)) m' w') {dst : Option Tmp} (hd : compDst nt dst = some (dOf l i)) {u : Value} (hu : den ρ m' (R i) u) :
    Inv P ρ g fl nt os l V H N R a0 m0 w0 (add1 S i) (j + 1) (mixN (H (i + 1)) Hc (N (i + 1)) (N l.length - N (i + 1))) m' (a.put dst u) w' := by
  have hi : i < l.length := by
    rcases Nat.lt_or_ge i l.length with p | p
    · exact p
    · rw [List.getElem?_eq_none p] at hq; cases hq
  have hN0 := D.mono hcl hgf hf (i := 0) i (Nat.zero_le _) (by omega)
  have hN1 := D.mono hcl hgf hf (i := i + 1) l.length hi (Nat.le_refl _)
  have hN2 := D.mono hcl hgf hf (i := i) (i + 1) (by omega) hi
  have hle := B.ext.le (I.fresh i hi hi0)
  have hmix : ∀ b, hg (mixN (H (i + 1)) Hc (N (i + 1)) (N l.length - N (i + 1))) b = if N (i + 1) ≤ b ∧ b < N l.length then hg Hc b else hg (H (i + 1)) b := fun b => by
    rw [hg_mixN]
    rw [show N (i + 1) + (N l.length - N (i + 1)) = N l.length by omega]
  -- what the text's order has there
  have dom : ∀ y, y ≤ l.length → ∀ b c z, N y ≤ b → b < N l.length → N 0 ≤ b → hg (H y) b ≠ .bk c z := by
    intro y hy b c z h1 h2 h3 hb
    rcases (D.ab hcl hgf hf y hy).made b c z hb with ⟨c0, z0, h4⟩ | ⟨_, h4⟩
    · obtain ⟨B', O, Z, q1, _⟩ := s0.cell b c0 z0 h4
      rw [f0 b h3 h2] at q1; cases q1
    · omega
  have A := (I.tr.narrow sub).then B hN0 hN1
  refine ⟨I.shut.add hup, (put_defers _ _ _).trans I.defers, I.fr_next D hcl hgf hf hi hi0 B.ext hd hu, ⟨?_, A.ext, A.keep, fun b c z B' O Z h1 h2 h3 => ?_⟩, ?_, fun k qk hk hek => ?_, fun x hx b c z hb => ?_, fun k qk hk hek hSk hjk hNk c z hb => ?_, I.fresh_next D hcl hgf hf hi B.ext⟩
  · exact Sim.mix I.tr.sim sub B (D.ab1 hcl hgf hf i hi) hle (n2 := N l.length) (fun b c z h1 h2 => dom i (by omega) b c z (by omega) h2 (by omega)) hmix
  · rw [hmix] at h2
    by_cases hc : N (i + 1) ≤ b ∧ b < N l.length
    · rw [if_pos hc] at h2
      exact I.tr.orig b c z B' O Z h1 h2 (by rw [← B.ext b (.inr hc.1)]; exact h3)
    · rw [if_neg hc] at h2
      exact A.orig b c z B' O Z h1 h2 h3
  · have h1 := effs_lt hq he hi (Nat.le_refl _); omega
  · by_cases hki : k = i
    · subst hki; rw [add1_self]; exact ⟨fun _ => by omega, fun _ => rfl⟩
    · rw [add1_ne hki, I.ej k qk hk hek]
      have hkl : k < l.length := by
        rcases Nat.lt_or_ge k l.length with p | p
        · exact p
        · rw [List.getElem?_eq_none p] at hk; cases hk
      rcases Nat.lt_or_ge k i with p | p
      · have := effs_lt hk hek p (by omega); omega
      · have := effs_lt hq he (show i < k by omega) (by omega); omega
  · have hx1 : x = i + 1 := by
      rcases hx with ⟨_, hx⟩ | ⟨e, qe, hx, h1, h2, h3⟩
      · omega
      · have hel : e < l.length := by
          rcases Nat.lt_or_ge e l.length with p | p
          · exact p
          · rw [List.getElem?_eq_none p] at h1; cases h1
        rcases Nat.lt_trichotomy e i with p | p | p
        · have := effs_lt h1 h2 p (by omega); omega
        · omega
        · have := effs_lt hq he p (by omega); omega
    subst hx1
    rw [hmix]
    by_cases hc : N (i + 1) ≤ b ∧ b < N l.length
    · exact absurd hb (dom (i + 1) hi b c z hc.1 hc.2 (by omega))
    · rw [if_neg hc]; exact hb
  · have hkl : k < l.length := by
      rcases Nat.lt_or_ge k l.length with p | p
      · exact p
      · rw [List.getElem?_eq_none p] at hk; cases hk
    have hki : i < k := by
      rcases Nat.lt_trichotomy i k with p | p | p
      · exact p
      · subst p; omega
      · have h1 := effs_mono (l := l) (i := k) i (by omega) (by omega); omega
    have h3 := D.mono hcl hgf hf (i := i + 1) k hki (by omega)
    have h4 := D.mono hcl hgf hf (i := k + 1) l.length hkl (Nat.le_refl _)
    rw [hmix, if_pos ⟨h3, by omega⟩]
    rw [add1_ne (by omega)] at hSk
    exact I.c2 k qk hk hek hSk (by omega) hNk c z hb
end
section
variable {os : Array Oper} {l : List RQ} {V : Nat → FT} {H : Nat → HT} {N : Nat → Nat} {R : Nat → RV} {csF : List CK} {hsF : List HT} {bf : List Nat}
variable (D : Dw P fl nt ys cl os l V H N R csF hsF bf)
variable {a0 : Act} {m0 : Mp} {w0 : World} {S : Nat → Bool} {j : Nat} {Hc : HT} {m : Mp} {a : Act} {w : World}
variable (I : Inv P ρ g fl nt os l V H N R a0 m0 w0 S j Hc m a w)
include D I
/-- what the text's order has at a place is there, if all that made it has been done -/
theorem Inv.cov {k b : Nat} (hk : k ≤ l.length) (hj : effs l k = j) (hb : ∀ k' q, k' < k → l[k']? = some q → isEf q = false → j ≤ effs l k' → N k' = b → N k' < N (k' + 1) → S k' = true) :
    ∀ y, y ≤ k → j ≤ effs l y → ∀ c z, hg (H y) b = .bk c z → hg Hc b = .bk c z
  | 0, _, h, c, z, hx => by
    have : effs l 0 = 0 := by cases l <;> rfl
    exact I.c1 0 (.inl ⟨rfl, by omega⟩) b c z hx
  | y + 1, hy, h, c, z, hx => by
    have hq := List.getElem?_eq_getElem (show y < l.length by omega)
    have h1 := effs_succ l y _ hq
    cases hef : isEf l[y] with
    | true =>
      rw [hef] at h1
      simp at h1
      have h2 := effs_mono (l := l) (i := y + 1) k hy hk
      exact I.c1 (y + 1) (.inr ⟨y, _, rfl, hq, hef, by omega⟩) b c z hx
    | false =>
      rw [hef] at h1
      simp at h1
      have ih := Inv.cov hk hj hb y (by omega) (by omega)
      rcases D.quiet hq hef with ⟨e1, _⟩ | ⟨x, e1, e2⟩
      · rw [e1] at hx; exact ih c z hx
      · by_cases hby : b = N y
        · subst hby
          exact I.c2 y _ hq hef (hb y _ (by omega) hq hef (by omega) rfl (by omega)) (by omega) (by omega) c z hx
        · rw [e1] at hx
          rcases hg_hst (H y) x (N y) b with ⟨p, _⟩ | ⟨_, p⟩
          · exact absurd p hby
          · rw [p] at hx; exact ih c z hx
end
end Go.Rn
