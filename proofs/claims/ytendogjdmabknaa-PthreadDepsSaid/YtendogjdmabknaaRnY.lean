/-
  One text of a symbolic evaluator over the model, shown sound once for every program: no statement is claimed here.
-/
import Derived.Test.YtendogjdmabknaaRnX
namespace Go.Rn
variable {ρ : Nat → Int} {P : Program}
variable {g fl nt : Nat} {ys : Ys} {cl : Cl'}
def pairRest (x y : It) : Bool := Nat.beq (x.wr &&& (y.rd ||| y.wr)) 0 && Nat.beq (x.rd &&& y.wr) 0 &&
    (match x.c, y.c with
     | .eff, .eff => false
     | .alloc, .eff => false
     | .alloc, .load => !y.nm
     | .eff, .load => Nat.ble y.p x.en
     | .load, .eff => Nat.ble (y.en + 1) x.q
     | _, _ => true)
theorem pairOk_eq (x y : It) : pairOk x y = (y.bf.testBit x.ix || pairRest x y) := rfl
/-- a drawn region that has been run in the text's order -/
structure Dw (P : Program) (fl nt : Nat) (ys : Ys) (cl : Cl') (os : Array Oper) (l : List RQ) (V : Nat → FT) (H : Nat → HT) (N : Nat → Nat) (R : Nat → RV) (csF : List CK) (hsF : List HT) (bf : List Nat) : Prop where
  len : l.length = os.size
  get : ∀ (i : Nat) (o : Oper), os[i]? = some o → ∃ k, l[i]? = some (compQ P nt os o k)
  run : DRun ys cl fl (N 0) l V H N R csF
  ck : ckOver hsF csF = true
  hs0 : ∃ pre, hsF = pre ++ [H 0]
  hsE : ∀ i q, l[i]? = some q → isEf q = true → ∃ pre suf, hsF = pre ++ H (i + 1) :: suf ∧ suf.length = 1 + effs l i
  ones : onesOk l 0 = true
  pairs : pairsOk (items l bf 0 0) = true
  back : backOk os.toList 0 = true
  bfOk : ∀ y, y < os.size → Sure os.toList y (bf.getD y 0)
  small : N l.length ≤ 8388608
/-- what the edges of k name has been done -/
def Up (os : List Oper) (S : Nat → Bool) (k : Nat) : Prop := ∀ o, os[k]? = some o → ∀ e ∈ o.after, Region.binds .any e = true → S e.on = true
theorem Shut.up {os : List Oper} {S : Nat → Bool} (h : Shut os S) {k : Nat} (hk : S k = true) : Up os S k := fun o ho e he hb => h k hk o ho e he hb
theorem pure_run {lim : Nat} {t : FT} {o : RP} (hc : cls o = .pure) : (∃ v, ∀ h n, step o ys cl fl lim t h n = .ok v h n) ∨ ∀ h n, ∃ l, step o ys cl fl lim t h n = .bad l := step_pure hc
theorem alloc_run {lim : Nat} {t : FT} {o : RP} (hc : cls o = .alloc) : (∃ (f : Nat → RV) (x : RB), ∀ h n, step o ys cl fl lim t h n = .ok (f n) (hst h x n) (n + 1)) ∨ ∀ h n, ∃ l, step o ys cl fl lim t h n = .bad l := step_alloc hc
theorem land_no {a b s : Nat} (h : Nat.beq (a &&& b) 0 = true) (ha : a.testBit s = true) (hb : b.testBit s = true) : False := by
  have e := beq_ok h
  have : (a &&& b).testBit s = true := by rw [Nat.testBit_and, ha, hb]; rfl
  rw [e, Nat.zero_testBit] at this
  cases this
theorem or_bit {a b s : Nat} (h : a.testBit s = true ∨ b.testBit s = true) : (a ||| b).testBit s = true := by
  rw [Nat.testBit_or, Bool.or_eq_true]; exact h
theorem it_wr {l : List RQ} {i ix b en : Nat} {q : RQ} (h : l[i]? = some q) : (itOf ix b en q).wr = dm (dOf l i) ∧ (itOf ix b en q).rd = rOf l i := by
  unfold dOf rOf
  rw [h]
  cases q
  exact ⟨rfl, rfl⟩
section
variable {os : Array Oper} {l : List RQ} {V : Nat → FT} {H : Nat → HT} {N : Nat → Nat} {R : Nat → RV} {csF : List CK} {hsF : List HT} {bf : List Nat}
variable (D : Dw P fl nt ys cl os l V H N R csF hsF bf)
include D
theorem Dw.pair {S : Nat → Bool} (hS : Shut os.toList S) {i k : Nat} (hik : i < k) (hk : Up os.toList S k) (hi : S i = false) {qi qk : RQ} (h1 : l[i]? = some qi) (h2 : l[k]? = some qk) :
    pairRest (itOf i (bf.getD i 0) (effs l i) qi) (itOf k (bf.getD k 0) (effs l k) qk) = true := by
  have e1 := items_get l bf 0 0 i qi h1
  have e2 := items_get l bf 0 0 k qk h2
  rw [Nat.zero_add, Nat.zero_add] at e1 e2
  have e3 := pairs_get D.pairs i k _ _ hik e1 e2
  rw [pairOk_eq, Bool.or_eq_true] at e3
  rcases e3 with e3 | e3
  · have hlt : k < os.size := by
      rw [← D.len]
      rcases Nat.lt_or_ge k l.length with p | p
      · exact p
      · rw [List.getElem?_eq_none p] at h2; cases h2
    have e4 : (bf.getD k 0).testBit i = true := by cases qi; cases qk; exact e3
    rw [D.bfOk k hlt S hS hk i e4] at hi
    cases hi
  · exact e3
/-- no quarrel over a slot -/
theorem Dw.apart {S : Nat → Bool} (hS : Shut os.toList S) {i k : Nat} (hik : i < k) (hk : Up os.toList S k) (hi : S i = false) (hkl : k < l.length) {s : Nat} :
    ((dm (dOf l i)).testBit s = true → (rOf l k).testBit s = true → False) ∧ ((dm (dOf l i)).testBit s = true → (dm (dOf l k)).testBit s = true → False) ∧ ((rOf l i).testBit s = true → (dm (dOf l k)).testBit s = true → False) := by
  obtain ⟨qi, h1⟩ : ∃ q, l[i]? = some q := ⟨_, List.getElem?_eq_getElem (Nat.lt_trans hik hkl)⟩
  obtain ⟨qk, h2⟩ : ∃ q, l[k]? = some q := ⟨_, List.getElem?_eq_getElem hkl⟩
  have h := D.pair hS hik hk hi h1 h2
  unfold pairRest at h
  rw [(it_wr h1).1, (it_wr h1).2, (it_wr h2).1, (it_wr h2).2] at h
  simp only [Bool.and_eq_true] at h
  exact ⟨fun a b => land_no h.1.1 a (or_bit (.inl b)), fun a b => land_no h.1.1 a (or_bit (.inr b)), fun a b => land_no h.1.2 a b⟩
theorem Dw.tput {i : Nat} (hi : i < l.length) : V (i + 1) = put (V i) (dOf l i) (R i) := by
  have h1 := List.getElem?_eq_getElem hi
  cases hq : l[i] with
  | q d gq k o =>
    rw [hq] at h1
    rw [D.run.put i d gq k o h1]
    unfold dOf
    rw [h1]
theorem Dw.ts_all {S : Nat → Bool} : ∀ i, i ≤ l.length → (∀ k, k < i → S k = true) → ts l (V 0) R S i = V i
  | 0, _, _ => rfl
  | i + 1, hi, hS => by
    show (if S i = true then put (ts l (V 0) R S i) (dOf l i) (R i) else ts l (V 0) R S i) = _
    rw [if_pos (hS i (by omega)), Dw.ts_all i (by omega) (fun k hk => hS k (by omega)), D.tput (by omega)]
/-- what an operation reads is what it reads in the text's order -/
theorem Dw.ts_read {S : Nat → Bool} (hS : Shut os.toList S) {k : Nat} (hkl : k < l.length) (hk : Up os.toList S k) (hk0 : S k = false) {s : Nat} (hs : (rOf l k).testBit s = true) :
    ∀ i, i ≤ l.length → T.get .un (ts l (V 0) R S i) s = T.get .un (V (min i k)) s
  | 0, _ => by rw [Nat.zero_min]; rfl
  | i + 1, hi => by
    have ih := Dw.ts_read hS hkl hk hk0 hs i (by omega)
    show T.get .un (if S i = true then put (ts l (V 0) R S i) (dOf l i) (R i) else ts l (V 0) R S i) s = _
    rcases Nat.lt_trichotomy i k with p | p | p
    · rw [show min (i + 1) k = i + 1 by omega, D.tput (by omega), put_get]
      rw [show min i k = i by omega] at ih
      cases hSi : S i with
      | true => rw [if_pos rfl, put_get, ih]
      | false =>
        rw [if_neg (by simp), ih]
        rw [if_neg (fun q => (D.apart hS p hk hSi hkl (s := s)).1 q hs)]
    · subst p
      rw [if_neg (by rw [hk0]; simp), ih]
      rw [show min i i = min (i + 1) i by omega]
    · rw [show min (i + 1) k = min i k by omega, ← ih]
      cases hSi : S i with
      | false => rw [if_neg (by simp)]
      | true =>
        rw [if_pos rfl, put_get]
        rw [if_neg (fun q => (D.apart hS p (hS.up hSi) hk0 (by omega) (s := s)).2.2 hs q)]
def add1 (S : Nat → Bool) (k : Nat) : Nat → Bool := fun i => if i = k then true else S i
theorem Dw.ts_put {S : Nat → Bool} (hS : Shut os.toList S) {k : Nat} (hkl : k < l.length) (hk0 : S k = false) {s : Nat} :
    ∀ i, i ≤ l.length → T.get .un (ts l (V 0) R (add1 S k) i) s = if k < i ∧ (dm (dOf l k)).testBit s = true then R k else T.get .un (ts l (V 0) R S i) s
  | 0, _ => by rw [if_neg (by omega)]; rfl
  | i + 1, hi => by
    have ih := Dw.ts_put hS hkl hk0 i (s := s) (by omega)
    show T.get .un (if add1 S k i = true then put (ts l (V 0) R (add1 S k) i) (dOf l i) (R i) else ts l (V 0) R (add1 S k) i) s = if k < i + 1 ∧ (dm (dOf l k)).testBit s = true then R k else T.get .un (if S i = true then put (ts l (V 0) R S i) (dOf l i) (R i) else ts l (V 0) R S i) s
    rcases Nat.lt_trichotomy i k with p | p | p
    · have ha : add1 S k i = S i := by unfold add1; rw [if_neg (by omega)]
      rw [ha]
      rw [if_neg (show ¬(k < i ∧ _) by omega)] at ih
      rw [if_neg (show ¬(k < i + 1 ∧ _) by omega)]
      cases hSi : S i with
      | true => rw [if_pos rfl, if_pos rfl, put_get, put_get, ih]
      | false => rw [if_neg (by simp), if_neg (by simp), ih]
    · subst p
      have ha : add1 S i i = true := by unfold add1; rw [if_pos rfl]
      rw [ha, if_pos rfl, put_get, ih, if_neg (show ¬(i < i ∧ _) by omega), hk0, if_neg (show ¬ false = true by simp)]
      by_cases hb : (dm (dOf l i)).testBit s = true
      · rw [if_pos hb, if_pos ⟨by omega, hb⟩]
      · rw [if_neg hb, if_neg (fun q => hb q.2)]
    · have ha : add1 S k i = S i := by unfold add1; rw [if_neg (by omega)]
      rw [ha]
      cases hSi : S i with
      | false =>
        rw [if_neg (show ¬ (false = true) by simp), if_neg (show ¬ (false = true) by simp), ih]
        by_cases hb : (dm (dOf l k)).testBit s = true
        · rw [if_pos ⟨p, hb⟩, if_pos ⟨by omega, hb⟩]
        · rw [if_neg (fun q => hb q.2), if_neg (fun q => hb q.2)]
      | true =>
        rw [if_pos rfl, if_pos rfl, put_get, put_get, ih]
        by_cases hb : (dm (dOf l k)).testBit s = true
        · rw [if_pos (show k < i ∧ _ from ⟨p, hb⟩), if_pos (show k < i + 1 ∧ _ from ⟨by omega, hb⟩)]
          by_cases hb2 : (dm (dOf l i)).testBit s = true
          · exact ((D.apart hS p (hS.up hSi) hk0 (by omega) (s := s)).2.1 hb hb2).elim
          · rw [if_neg hb2]
        · rw [if_neg (show ¬(k < i ∧ _) from fun q => hb q.2), if_neg (show ¬(k < i + 1 ∧ _) from fun q => hb q.2)]
/-! ### memory, in the text's order -/
theorem Dw.turn (i : Nat) {d : Go.Rn.D} {gq : G} {k : K3} {o : RP} (h : l[i]? = some (.q d gq k o)) :
    (want (V i) gq = .n ∧ R i = .ud ∧ H (i + 1) = H i ∧ N (i + 1) = N i) ∨ (want (V i) gq = .y ∧ step o ys cl fl (limOf k (N 0)) (V i) (H i) (N i) = .ok (R i) (H (i + 1)) (N (i + 1))) := by
  rcases D.run.turn i d gq k o h with q | ⟨q1, q2, _⟩
  · exact .inl q
  · exact .inr ⟨q1, q2⟩
theorem Dw.one (i : Nat) {q : RQ} (h : l[i]? = some q) : oneOk (effs l i) q = true := by
  have := ones_get l 0 i q D.ones h
  rwa [Nat.zero_add] at this
theorem Dw.ab (hcl : ClAb g cl) (hgf : g ≤ fl) (hf : fl ≤ N 0) : ∀ i, i ≤ l.length → Ab fl (H 0) (N 0) (H i) (N i)
  | 0, _ => Ab.refl _ _ _
  | i + 1, hi => by
    have ih := Dw.ab hcl hgf hf i (by omega)
    have h1 := List.getElem?_eq_getElem (show i < l.length by omega)
    cases hq : l[i] with
    | q d gq k o =>
      rw [hq] at h1
      rcases D.turn i h1 with ⟨_, _, h2, h3⟩ | ⟨_, h2⟩
      · rw [h2, h3]; exact ih
      · exact ih.trans (step_ab hcl hgf _ _ _ _ _ h2 (Nat.le_trans hf ih.le))
theorem Dw.ab1 (hcl : ClAb g cl) (hgf : g ≤ fl) (hf : fl ≤ N 0) (i : Nat) (hi : i < l.length) : Ab fl (H i) (N i) (H (i + 1)) (N (i + 1)) := by
  have ih := D.ab hcl hgf hf i (by omega)
  have h1 := List.getElem?_eq_getElem hi
  cases hq : l[i] with
  | q d gq k o =>
    rw [hq] at h1
    rcases D.turn i h1 with ⟨_, _, h2, h3⟩ | ⟨_, h2⟩
    · rw [h2, h3]; exact Ab.refl _ _ _
    · exact step_ab hcl hgf _ _ _ _ _ h2 (Nat.le_trans hf ih.le)
theorem Dw.mono (hcl : ClAb g cl) (hgf : g ≤ fl) (hf : fl ≤ N 0) {i : Nat} : ∀ k, i ≤ k → k ≤ l.length → N i ≤ N k
  | 0, h, _ => by rw [show i = 0 by omega]; exact Nat.le_refl _
  | k + 1, h, hk => by
    rcases Nat.lt_or_ge k i with p | p
    · rw [show i = k + 1 by omega]; exact Nat.le_refl _
    · exact Nat.le_trans (Dw.mono hcl hgf hf k p (by omega)) (D.ab1 hcl hgf hf k (by omega)).le
/-- an operation that turns no memory makes one block or none -/
theorem Dw.quiet {i : Nat} {q : RQ} (h : l[i]? = some q) (he : isEf q = false) : (H (i + 1) = H i ∧ N (i + 1) = N i) ∨ ∃ x, H (i + 1) = hst (H i) x (N i) ∧ N (i + 1) = N i + 1 := by
  cases q with
  | q d gq k o =>
    have h1 := D.one i h
    rcases D.turn i h with ⟨_, _, h2, h3⟩ | ⟨_, h2⟩
    · exact .inl ⟨h2, h3⟩
    · cases hc : cls o with
      | pure =>
        rcases pure_run (ys := ys) (cl := cl) (fl := fl) (lim := limOf k (N 0)) (t := V i) hc with ⟨v, h3⟩ | h3
        · rw [h3] at h2; simp only [SR.ok.injEq] at h2; exact .inl ⟨h2.2.1.symm, h2.2.2.symm⟩
        · obtain ⟨b, h3⟩ := h3 (H i) (N i); rw [h3] at h2; cases h2
      | load =>
        cases o <;> first | (cases hc; done) | skip
        obtain ⟨e1, e2, _⟩ := step_load h2
        exact .inl ⟨e1, e2⟩
      | alloc =>
        rcases alloc_run (ys := ys) (cl := cl) (fl := fl) (lim := limOf k (N 0)) (t := V i) hc with ⟨f, x, h3⟩ | h3
        · rw [h3] at h2; simp only [SR.ok.injEq] at h2; exact .inr ⟨x, h2.2.1.symm, h2.2.2.symm⟩
        · obtain ⟨b, h3⟩ := h3 (H i) (N i); rw [h3] at h2; cases h2
      | eff =>
        simp only [oneOk, hc] at h1
        cases k <;> first | (cases h1; done) | (cases he; done)
end
end Go.Rn
