/-
  One text of a symbolic evaluator over the model, shown sound once for every program: no statement is claimed here.
-/
import Derived.Test.YtendogjdmabknaaRqK
import Derived.Test.YtendogjdmabknaaRnZd
namespace Go.Rn
/-- functions by a list -/
noncomputable def inL (l : List (Nat × RF)) (f : Nat) : Option RF := @List.rec (Nat × RF) (fun _ => Option RF) none (fun e _ ih => bf (Nat.beq e.1 f) (some e.2) ih) l
theorem inL_ok {P : Program} : ∀ {l : List (Nat × RF)}, (∀ e ∈ l, compF P e.1 = some e.2) → ∀ f r, inL l f = some r → compF P f = some r
  | [], _, f, r, h => by cases h
  | e :: l, ha, f, r, h => by
    have h1 : bf (Nat.beq e.1 f) (some e.2) (inL l f) = some r := h
    rcases bf_or h1 with ⟨h2, h3⟩ | ⟨_, h3⟩
    · have := beq_ok h2
      subst this
      cases h3
      exact ha e List.mem_cons_self
    · exact inL_ok (fun e he => ha e (List.mem_cons_of_mem _ he)) f r h3
/-- a law from an empty beginning, by a quick run -/
theorem law_quick {ρ : Nat → Int} {P : Program} {ys : Ys} {fs : Nat → Option RF} {orc : Nat → RV → Option RV} (hy : YsOk ρ ys) (hfs : ∀ f r, fs f = some r → compF P f = some r) (ho : OrcOk P ρ orc) {deep f : Nat} {c : RV} {n : Nat} (hgl : P.globals.size ≤ n)
    (e : call3 ys 0 fs orc noKc deep f c he3 n isT = .yes) {vs : List Value} (hd : ∀ m, denC ρ m c vs) (w : World) (hf : f < 16777216 := by decide) :
    Calls P f vs.toArray w fun e w' => e = .returned (.bool true) ∧ Old w w' := by
  obtain ⟨h', n', hx⟩ := quick he3_ok e
  obtain ⟨_, hc1, _⟩ := callX_ok (g := 0) hy fs hfs ho (kc := noKc) (fun _ _ _ h => by cases h) deep f c 0 he n _ _ _ hx (Nat.le_refl _) (Nat.zero_le _)
  obtain ⟨_, hc⟩ := hc1 hf
  refine (hc (fun b => if b < P.globals.size then some (b, 0, 0) else none) w vs ⟨fun b c z hb => (by rw [hg_he] at hb; cases hb), fun b b' c z c' z' B O Z O' Z' hb => (by rw [hg_he] at hb; cases hb)⟩ (fun k hk => ⟨0, if_pos hk⟩) (hd _) (fun b h1 _ => if_neg (by omega))).mono ?_
  rintro e w' ⟨u, m', rfl, T, hu⟩
  have : u = .bool true := hu
  subst this
  exact ⟨rfl, T.keep.os, T.keep.tape, T.keep.output, T.keep.size, fun k hk => T.keep.block k hk (fun b c z O Z _ hb => (by rw [hg_he] at hb; cases hb))⟩
/-- a beginning with one row that is laid -/
noncomputable def start3 (ch : RV) (b z : Nat) (k : H3 → A) : A := ifA (Nat.beq z MAPZ) .no (lay3 ch ce3 0 fun cs _ => hupd he3 b (fun _ f => f (bkB cs z)) k)
theorem start3_ok {ch : RV} {b z : Nat} {k : H3 → A} (e : Good (start3 ch b z k)) : ∃ h3, HRel h3 (hst he (.bk (lay ch ce 0) z) b) ∧ Good (k h3) := by
  rcases ifA_ok e with ⟨_, e⟩ | ⟨hz, e⟩
  · exact Good.no e
  have hmz : z ≠ MAPZ := fun q => by rw [q] at hz; exact absurd hz (by decide)
  obtain ⟨_, _, c3, rc, h1⟩ := lay3_ok ce3_ok e
  obtain ⟨_, b3, g, _, h2, h4⟩ := hupd_ok he3_ok h1
  exact h4 (bkB c3 z) (.bk (lay ch ce 0) z) (.inl ⟨hmz, c3, rfl, rc⟩) h2
/-- a law over variables that are laid, by a quick run -/
theorem quick_laid {ys : Ys} {fl : Nat} {fs : Nat → Option RF} {orc : Nat → RV → Option RV} {kc : Kc} {deep f n b z : Nat} {a ch : RV} (e : start3 ch b z (fun h => call3 ys fl fs orc kc deep f a h n isT) = .yes) : ∃ h' n', callX ys fs orc kc deep f a fl (hst he (.bk (lay ch ce 0) z) b) n = .ok (.b true) h' n' := by
  obtain ⟨h3, hH, h1⟩ := start3_ok e
  exact quick hH h1
theorem law_laid {ρ : Nat → Int} {P : Program} {ys : Ys} {fs : Nat → Option RF} {orc : Nat → RV → Option RV} (hy : YsOk ρ ys) (hfs : ∀ f r, fs f = some r → compF P f = some r) (ho : OrcOk P ρ orc) {kc : Kc} (hk : ∀ f c q, kc f c = some q → KcOk P ρ kc) {deep f g n : Nat} {c : RV} {h0 : HT} {m0 : Mp} {w : World} (hgn : g ≤ n) (hd0 : ∀ b c z, hg h0 b = .bk c z → b < n) (s : Sim P ρ m0 g h0 w) (gl : Glob P m0) (hfree : ∀ b, n ≤ b → m0 b = none)
    (e : ∃ h' n', callX ys fs orc kc deep f c n h0 n = .ok (.b true) h' n') {vs : List Value} (hd : denC ρ m0 c vs) (hf : f < 16777216 := by decide) :
    Calls P f vs.toArray w fun e w' => e = .returned (.bool true) ∧ Old w w' := by
  obtain ⟨h', n', hx⟩ := e
  obtain ⟨_, hc1, _⟩ := callX_ok (g := g) hy fs hfs ho hk deep f c n h0 n _ _ _ hx hgn (Nat.le_refl _)
  obtain ⟨_, hc⟩ := hc1 hf
  refine (hc m0 w vs s gl hd (fun b h1 _ => hfree b h1)).mono ?_
  rintro e w' ⟨u, m', rfl, T, hu⟩
  have : u = .bool true := hu
  subst this
  exact ⟨rfl, T.keep.os, T.keep.tape, T.keep.output, T.keep.size, fun k hk => T.keep.block k hk (fun b c z O Z hb1 hb => by have := hd0 b c z hb; omega)⟩
/-- a call without arguments that is true by the table -/
noncomputable def tabO (pf z : Nat) (ch : RV) : Kc := fun f c => bf (Nat.beq f pf) (gN none c (some (z, ch)) fun _ _ => none) none
theorem tabO_ok {ρ : Nat → Int} {P : Program} {pf z : Nat} {ch : RV} (h0 : 0 < P.globals.size) (hk : known P pf = true) (hp : ∀ (m : Mp) (w : World) (us : List Value) (C : Array Value) (el : TypeId) (fr : Nat × Nat), w.heap[0]? = some (.cells C el fr) → denC ρ m ch us → (∀ (j : Nat) (u : Value), us[j]? = some u → C[j]? = some u) →
    Calls P pf #[] w fun e w' => e = .returned (.bool true) ∧ Old w w') : ∀ f c q, tabO pf z ch f c = some q → KcOk P ρ (tabO pf z ch) := by
  refine fun _ _ _ _ => ⟨h0, fun f c q h => ?_⟩
  unfold tabO at h
  obtain ⟨h1, h2⟩ := bf_ok h (by simp)
  have hf := beq_ok h1
  subst hf
  rcases gN_ok h2 (by simp) with ⟨rfl, h3⟩ | ⟨x, r, rfl, h3⟩
  · cases h3
    refine ⟨hk, fun m w vs us C el fr hd hw hu hc => ?_⟩
    have := denC_nil.1 hd
    subst this
    exact hp m w us C el fr hw hu hc
  · cases h3
/-- plain values: numbers, bools -/
def PlainV : Value → Prop
  | .int _ _ => True
  | .bool _ => True
  | _ => False
theorem chain_den {ρ : Nat → Int} {m : Mp} : ∀ {kv us : List Value}, (∀ v ∈ kv, PlainV v) → denC ρ m (chain kv) us → us = kv
  | [], us, _, h => denC_nil.1 h
  | v :: r, us, hp, h => by
    obtain ⟨u, us', rfl, h1, h2⟩ := denC_cons.1 (show denC ρ m (.cons (atom v) (chain r)) us from h)
    rw [chain_den (fun x hx => hp x (List.mem_cons_of_mem _ hx)) h2]
    have hv := hp v List.mem_cons_self
    cases v <;> first | exact hv.elim | (have e : u = _ := h1; rw [e])
end Go.Rn
