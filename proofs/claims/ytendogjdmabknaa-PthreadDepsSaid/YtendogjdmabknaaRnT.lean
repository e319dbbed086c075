/-
  One text of a symbolic evaluator over the model, shown sound once for every program: no statement is claimed here.
-/
import Derived.Test.YtendogjdmabknaaRnTa
import Derived.Scope
namespace Go.Rn
variable {ρ : Nat → Int} {m m' : Mp} {P : Program}
variable {g fl n n' nt : Nat} {h h' : HT} {t : FT} {a : Act} {w : World} {v : RV} {ys : Ys} {cl : Cl'}
/-- a code's weakest condition, as BdOk takes it -/
abbrev Wp (r : Option Nat) (P : Program) (c : Code) : (Exit → Act → World → Prop) → Act → World → Prop := fun Q a w => c.wpIn (WF r) 0 P Q a w
variable {r : Option Nat}
theorem Tr.frame {h2 : HT} {n2 : Nat} {m2 : Mp} {w2 : World} (T : Tr P ρ g fl h n m w h2 n2 m2 w2) (f : Fresh n n2 m) {nt : Nat} {t : FT} {tmps : Array Value} (F : Fr P ρ m nt t tmps) : Fr P ρ m2 nt t tmps := F.le (T.ext.le f)
theorem bd_andThen {A B : Bd} {X : Code} {W : (Exit → Act → World → Prop) → Act → World → Prop} (hA : BdOk r P ρ g fl nt A (Wp r P X)) {WB : (Exit → Act → World → Prop) → Act → World → Prop} (hB : BdOk r P ρ g fl nt B WB)
    (hW : ∀ Q a w, X.wpIn (WF r) 0 P (Exit.then (WB Q) Q) a w → W Q a w) : BdOk r P ρ g fl nt (fun t h n => andThen (A t h n) B) W := by
  intro t h n e t' h' n' hr hf
  have hr1 : brIs (andThen (A t h n) B) e t' h' n' := hr
  cases hA1 : A t h n with
  | nx t1 h1 n1 =>
    rw [hA1] at hr1
    obtain ⟨ab1, k1⟩ := hA t h n .normal t1 h1 n1 (by rw [hA1]; exact brIs_nx.2 ⟨rfl, rfl, rfl, rfl⟩) hf
    obtain ⟨ab2, k2⟩ := hB t1 h1 n1 e t' h' n' hr1 (Nat.le_trans hf ab1.le)
    refine ⟨ab1.trans ab2, fun a m w F s fr base mk Q hQ => hW _ _ _ (k1 a m w F s (fr.left ab2.le) base mk _ fun a1 w1 m1 d1 F1 T1 => ?_)⟩
    exact k2 a1 m1 w1 F1 T1.sim (fr.right T1.ext ab1.le) base d1 Q fun a2 w2 m2 d2 F2 T2 => hQ a2 w2 m2 d2 F2 (T1.trans T2 ab1.le ab2.le)
  | ex id t1 h1 n1 =>
    rw [hA1] at hr1
    obtain ⟨rfl, rfl, rfl, rfl⟩ := brIs_ex.1 (show brIs (.ex id t1 h1 n1) e t' h' n' from hr1)
    obtain ⟨ab1, k1⟩ := hA t h n (.exit id) t' h' n' (by rw [hA1]; exact brIs_ex.2 ⟨rfl, rfl, rfl, rfl⟩) hf
    exact ⟨ab1, fun a m w F s fr base mk Q hQ => hW _ _ _ (k1 a m w F s fr base mk _ fun a1 w1 m1 d1 F1 T1 => hQ a1 w1 m1 d1 F1 T1)⟩
  | rt t1 h1 n1 =>
    rw [hA1] at hr1
    obtain ⟨rfl, rfl, rfl, rfl⟩ := brIs_rt.1 (show brIs (.rt t1 h1 n1) e t' h' n' from hr1)
    obtain ⟨ab1, k1⟩ := hA t h n .ret t' h' n' (by rw [hA1]; exact brIs_rt.2 ⟨rfl, rfl, rfl, rfl⟩) hf
    exact ⟨ab1, fun a m w F s fr base mk Q hQ => hW _ _ _ (k1 a m w F s fr base mk _ fun a1 w1 m1 d1 F1 T1 => hQ a1 w1 m1 d1 F1 T1)⟩
  | bad l => rw [hA1] at hr1; exact absurd hr1 brIs_bad
/-- so many rounds: each of N more lies behind -/
def RdOk (r : Option Nat) (P : Program) (ρ : Nat → Int) (g fl nt : Nat) (F : Bd) (X : Code) (k : Nat) : Prop := ∀ t h n e t' h' n', brIs (F t h n) e t' h' n' → fl ≤ n →
  Ab fl h n h' n' ∧ ∀ (a : Act) (m : Mp) (w : World), Fr P ρ m nt t a.tmps → Sim P ρ m g h w → Fresh n n' m → ∀ base, Marks r fl base a.defers h m w → ∀ (N : Nat) (Q : Exit → Act → World → Prop),
    (∀ a' w' m', Marks r fl base a'.defers h' m' w' → Fr P ρ m' nt t' a'.tmps → Tr P ρ g fl h n m w h' n' m' w' → Exit.then (Code.roundsIn (WF r) 0 P X Q N) Q e a' w') → Code.roundsIn (WF r) 0 P X Q (N + k) a w
theorem rd_rounds {A : Bd} {X : Code} (hA : BdOk r P ρ g fl nt A (Wp r P X)) : ∀ k, RdOk r P ρ g fl nt (rounds A k) X (2 ^ k)
  | 0 => by
    intro t h n e t' h' n' hr hf
    obtain ⟨ab1, k1⟩ := hA t h n e t' h' n' hr hf
    refine ⟨ab1, fun a m w F s fr base mk N Q hQ => ?_⟩
    show Code.roundsIn (WF r) 0 P X Q (N + 1) a w
    rw [roundsIn_succ]
    exact k1 a m w F s fr base mk _ hQ
  | k + 1 => by
    have ih := rd_rounds hA k
    intro t h n e t' h' n' hr hf
    have hr1 : brIs (andThen (rounds A k t h n) (rounds A k)) e t' h' n' := hr
    have e2 : ∀ N, N + 2 ^ (k + 1) = (N + 2 ^ k) + 2 ^ k := fun N => by rw [Nat.pow_succ]; omega
    cases hA1 : rounds A k t h n with
    | nx t1 h1 n1 =>
      rw [hA1] at hr1
      obtain ⟨ab1, k1⟩ := ih t h n .normal t1 h1 n1 (by rw [hA1]; exact brIs_nx.2 ⟨rfl, rfl, rfl, rfl⟩) hf
      obtain ⟨ab2, k2⟩ := ih t1 h1 n1 e t' h' n' hr1 (Nat.le_trans hf ab1.le)
      refine ⟨ab1.trans ab2, fun a m w F s fr base mk N Q hQ => ?_⟩
      rw [e2]
      refine k1 a m w F s (fr.left ab2.le) base mk (N + 2 ^ k) Q fun a1 w1 m1 d1 F1 T1 => ?_
      exact k2 a1 m1 w1 F1 T1.sim (fr.right T1.ext ab1.le) base d1 N Q fun a2 w2 m2 d2 F2 T2 => hQ a2 w2 m2 d2 F2 (T1.trans T2 ab1.le ab2.le)
    | ex id t1 h1 n1 =>
      rw [hA1] at hr1
      obtain ⟨rfl, rfl, rfl, rfl⟩ := brIs_ex.1 (show brIs (.ex id t1 h1 n1) e t' h' n' from hr1)
      obtain ⟨ab1, k1⟩ := ih t h n (.exit id) t' h' n' (by rw [hA1]; exact brIs_ex.2 ⟨rfl, rfl, rfl, rfl⟩) hf
      exact ⟨ab1, fun a m w F s fr base mk N Q hQ => by rw [e2]; exact k1 a m w F s fr base mk _ Q fun a1 w1 m1 d1 F1 T1 => hQ a1 w1 m1 d1 F1 T1⟩
    | rt t1 h1 n1 =>
      rw [hA1] at hr1
      obtain ⟨rfl, rfl, rfl, rfl⟩ := brIs_rt.1 (show brIs (.rt t1 h1 n1) e t' h' n' from hr1)
      obtain ⟨ab1, k1⟩ := ih t h n .ret t' h' n' (by rw [hA1]; exact brIs_rt.2 ⟨rfl, rfl, rfl, rfl⟩) hf
      exact ⟨ab1, fun a m w F s fr base mk N Q hQ => by rw [e2]; exact k1 a m w F s fr base mk _ Q fun a1 w1 m1 d1 F1 T1 => hQ a1 w1 m1 d1 F1 T1⟩
    | bad l => rw [hA1] at hr1; exact absurd hr1 brIs_bad
theorem ops_nx : ∀ (l : List RQ) (t : FT) (h : HT) (n : Nat), (∃ a b c, ops ys cl fl l t h n = .nx a b c) ∨ ∃ k, ops ys cl fl l t h n = .bad k
  | [], t, h, n => .inl ⟨t, h, n, rfl⟩
  | .q d g _ o :: l, t, h, n => by
    show (∃ a b c, opsW ys cl fl d o (ops ys cl fl l) t h n (want t g) = .nx a b c) ∨ ∃ k, opsW ys cl fl d o (ops ys cl fl l) t h n (want t g) = .bad k
    cases want t g with
    | y =>
      show (∃ a b c, opsOk d t (step o ys cl fl 1152921504606846976 t h n) (ops ys cl fl l) = .nx a b c) ∨ ∃ k, opsOk d t (step o ys cl fl 1152921504606846976 t h n) (ops ys cl fl l) = .bad k
      cases step o ys cl fl 1152921504606846976 t h n with
      | ok v h1 n1 =>
        show (∃ a b c, fT (put t d v) (fun t => ops ys cl fl l t h1 n1) = .nx a b c) ∨ ∃ k, fT (put t d v) (fun t => ops ys cl fl l t h1 n1) = .bad k
        rw [fT_eq]; exact ops_nx l _ _ _
      | bad k => exact .inr ⟨k, rfl⟩
    | n =>
      show (∃ a b c, fT (put t d .ud) (fun t => ops ys cl fl l t h n) = .nx a b c) ∨ ∃ k, fT (put t d .ud) (fun t => ops ys cl fl l t h n) = .bad k
      rw [fT_eq]; exact ops_nx l _ _ _
    | u => exact .inr ⟨[99], rfl⟩
theorem stepR_scope {b : Frame} {a : Act} {k : List Item} {cs : List Frame} {w : World} {c : Code} : Go.step P (lone (b.atR a (.code (.scope c) :: k)) cs w) = .next (lone (b.atR a (.code c :: .inScope c :: k)) cs w) :=
  step_lone_go (by simp [stepG, stepG.exec, Frame.atR])
theorem stepR_inScope {b : Frame} {a : Act} {k : List Item} {cs : List Frame} {w : World} {c : Code} : Go.step P (lone (b.atR a (.inScope c :: k)) cs w) = .next (lone (b.atR a k) cs w) :=
  step_lone_go (by simp [stepG, stepG.exec, Frame.atR])
theorem wpIn_scope_straight {F : Fence} {n : Nat} {Q : Exit → Act → World → Prop} {c : Code} (h : c.wpIn F n P (Exit.noGoto Q) a w) : (Code.scope c).wpIn F n P Q a w := by
  intro b k cs hro hb hr
  obtain ⟨e, a₁, w₁, hq, harr⟩ := h b (.inScope c :: k) cs hro hb hr
  cases e with
  | normal => exact ⟨.normal, a₁, w₁, hq, .head (fenced_calm hb hr rfl) stepR_scope (StepsIn.trans harr (.one (fenced_calm hb hr rfl) stepR_inScope))⟩
  | exit id => exact ⟨.exit id, a₁, w₁, hq, .of_steps (e := .exit id) (.one (fenced_calm hb hr rfl) stepR_scope) ⟨fun k' hk => harr.1 k' (by simpa [exitTo] using hk), fun h1 h2 => harr.2 h1 (by simpa [exitTo] using h2)⟩⟩
  | goto l => exact hq.elim
  | ret => exact ⟨_, a₁, w₁, hq, .of_steps (.one (fenced_calm hb hr rfl) stepR_scope) harr⟩
  | panic ch => exact ⟨_, a₁, w₁, hq, .of_steps (.one (fenced_calm hb hr rfl) stepR_scope) harr⟩
  | outgrown => exact ⟨_, a₁, w₁, hq, .of_steps (.one (fenced_calm hb hr rfl) stepR_scope) harr⟩
/-- a drawn region's word -/
def DrOk (r : Option Nat) (P : Program) (ρ : Nat → Int) (g fl nt : Nat) (ys : Ys) (cl : Cl') : Prop := ∀ id (os : Array Oper), BdOk r P ρ g fl nt (fun t h n => dops ys cl fl n (compDr P nt os) t h n [] [h]) (Wp r P (.region id os true))
/-- a piece of code -/
theorem code_ok {fi : Nat} (hnt : nt < 1000000) (hy : YsOk ρ ys) (hcl : ClOk P ρ g cl) (hgf : g ≤ fl) (hdr : DrOk r P ρ g fl nt ys cl) : ∀ (c : Code) (i : Nat), (∀ (j : Nat) (x : Array Tmp × Code × Code), (rngs c)[j]? = some x → i + j < 256 ∧ loopAt P (keyAt fi (i + j)) = some (fi, nt, x.1, x.2.1, x.2.2)) → BdOk r P ρ g fl nt (code ys cl fl (comp P nt fi c i)) (Wp r P c)
  | .skip, i, hi => by
    intro t h n e t' h' n' hr hf
    obtain ⟨rfl, rfl, rfl, rfl⟩ := brIs_nx.1 (show brIs (.nx t h n) e t' h' n' from hr)
    exact ⟨Ab.refl _ _ _, fun a m w F s _ base mk Q hQ => wpIn_skip (hQ a w m mk F (Tr.refl s))⟩
  | .label l, i, hi => by
    intro t h n e t' h' n' hr hf
    obtain ⟨rfl, rfl, rfl, rfl⟩ := brIs_nx.1 (show brIs (.nx t h n) e t' h' n' from hr)
    exact ⟨Ab.refl _ _ _, fun a m w F s _ base mk Q hQ => wpIn_label (hQ a w m mk F (Tr.refl s))⟩
  | .exit id, i, hi => by
    intro t h n e t' h' n' hr hf
    obtain ⟨rfl, rfl, rfl, rfl⟩ := brIs_ex.1 (show brIs (.ex id t h n) e t' h' n' from hr)
    exact ⟨Ab.refl _ _ _, fun a m w F s _ base mk Q hQ => wpIn_exit (hQ a w m mk F (Tr.refl s))⟩
  | .ret, i, hi => by
    intro t h n e t' h' n' hr hf
    obtain ⟨rfl, rfl, rfl, rfl⟩ := brIs_rt.1 (show brIs (.rt t h n) e t' h' n' from hr)
    exact ⟨Ab.refl _ _ _, fun a m w F s _ base mk Q hQ => wpIn_ret (hQ a w m mk F (Tr.refl s))⟩
  | .region id os d, i, hi => by
    cases d with
    | true => exact hdr id os
    | false =>
      intro t h n e t' h' n' hr hf
      obtain ⟨ab, k⟩ := ops_ok hy hcl hgf (os := os) (nt := nt) os.toList 0 (fun i o hi => by simpa using hi) t h n e t' h' n' hr hf
      have hen : e = .normal := by
        have hr1 : brIs (ops ys cl fl (compReg P nt os) t h n) e t' h' n' := hr
        rcases ops_nx (ys := ys) (cl := cl) (fl := fl) (compReg P nt os) t h n with ⟨a, b, c, q⟩ | ⟨l, q⟩
        · rw [q] at hr1; exact (brIs_nx.1 hr1).1
        · rw [q] at hr1; exact absurd hr1 brIs_bad
      subst hen
      refine ⟨ab, fun a m w F s fr base mk Q hQ => wpIn_region ?_⟩
      have := k a m w F s fr base mk Q hQ
      simpa [List.range_eq_range'] using this
  | .seq x y, i, hi => bd_andThen (code_ok hnt hy hcl hgf hdr x i (fun j z hj => hi j z (by show (rngs x ++ rngs y)[j]? = _; rw [List.getElem?_append_left (List.getElem?_eq_some_iff.1 hj).1]; exact hj))) (code_ok hnt hy hcl hgf hdr y (i + (rngs x).length) (fun j z hj => by have := hi ((rngs x).length + j) z (by show (rngs x ++ rngs y)[_]? = _; rw [List.getElem?_append_right (by omega), Nat.add_sub_cancel_left]; exact hj); rwa [← Nat.add_assoc] at this)) (fun Q a w q => wpIn_seq q)
  | .cond c x y, i, hi => by
    have hx0 : ∀ (j : Nat) (z : Array Tmp × Code × Code), (rngs x)[j]? = some z → i + j < 256 ∧ loopAt P (keyAt fi (i + j)) = some (fi, nt, z.1, z.2.1, z.2.2) := fun j z hj => hi j z (by show (rngs x ++ rngs y)[j]? = _; rw [List.getElem?_append_left (List.getElem?_eq_some_iff.1 hj).1]; exact hj)
    have hy0 : ∀ (j : Nat) (z : Array Tmp × Code × Code), (rngs y)[j]? = some z → i + (rngs x).length + j < 256 ∧ loopAt P (keyAt fi (i + (rngs x).length + j)) = some (fi, nt, z.1, z.2.1, z.2.2) := fun j z hj => by
      have := hi ((rngs x).length + j) z (by show (rngs x ++ rngs y)[_]? = _; rw [List.getElem?_append_right (by omega), Nat.add_sub_cancel_left]; exact hj)
      rwa [← Nat.add_assoc] at this
    intro t h n e t' h' n' hr hf
    have hr1 : brIs (cdC (ev t (opd P nt c)) (code ys cl fl (comp P nt fi x i)) (code ys cl fl (comp P nt fi y (i + (rngs x).length))) t h n) e t' h' n' := hr
    unfold cdC at hr1
    cases hc : ev t (opd P nt c) <;> rw [hc] at hr1 <;> first | exact absurd hr1 brIs_bad | skip
    rename_i b
    have hv : ∀ {a : Act} {m : Mp}, Fr P ρ m nt t a.tmps → a.eval c = .bool b := fun {a} {m} F => by
      have := opd_ok F c (by rw [hc]; simp)
      rw [hc] at this
      exact this
    cases b with
    | true =>
      obtain ⟨ab, k⟩ := code_ok hnt hy hcl hgf hdr x i hx0 t h n e t' h' n' hr1 hf
      exact ⟨ab, fun a m w F s fr base mk Q hQ => wpIn_cond_true (hv F) (k a m w F s fr base mk Q hQ)⟩
    | false =>
      obtain ⟨ab, k⟩ := code_ok hnt hy hcl hgf hdr y _ hy0 t h n e t' h' n' hr1 hf
      exact ⟨ab, fun a m w F s fr base mk Q hQ => wpIn_cond_false (hv F) (k a m w F s fr base mk Q hQ)⟩
  | .block id x, i, hi => by
    intro t h n e t' h' n' hr hf
    have hr1 : brIs (blC (code ys cl fl (comp P nt fi x i) t h n) id) e t' h' n' := hr
    cases hA : code ys cl fl (comp P nt fi x i) t h n with
    | nx t1 h1 n1 =>
      rw [hA] at hr1
      obtain ⟨rfl, rfl, rfl, rfl⟩ := brIs_nx.1 (show brIs (.nx t1 h1 n1) e t' h' n' from hr1)
      obtain ⟨ab, k⟩ := code_ok hnt hy hcl hgf hdr x i hi t h n .normal t' h' n' (by rw [hA]; exact brIs_nx.2 ⟨rfl, rfl, rfl, rfl⟩) hf
      exact ⟨ab, fun a m w F s fr base mk Q hQ => wpIn_block (k a m w F s fr base mk _ hQ)⟩
    | ex j t1 h1 n1 =>
      rw [hA] at hr1
      have hr2 : brIs (bf (Nat.beq j id) (.nx t1 h1 n1) (.ex j t1 h1 n1)) e t' h' n' := hr1
      cases hj : Nat.beq j id with
      | true =>
        rw [hj] at hr2
        obtain ⟨rfl, rfl, rfl, rfl⟩ := brIs_nx.1 (show brIs (.nx t1 h1 n1) e t' h' n' from hr2)
        obtain ⟨ab, k⟩ := code_ok hnt hy hcl hgf hdr x i hi t h n (.exit j) t' h' n' (by rw [hA]; exact brIs_ex.2 ⟨rfl, rfl, rfl, rfl⟩) hf
        refine ⟨ab, fun a m w F s fr base mk Q hQ => wpIn_block (k a m w F s fr base mk _ fun a1 w1 m1 d F1 T1 => ?_)⟩
        simp only [Exit.inBlock, beq_ok hj, if_true]
        exact hQ a1 w1 m1 d F1 T1
      | false =>
        rw [hj] at hr2
        obtain ⟨rfl, rfl, rfl, rfl⟩ := brIs_ex.1 (show brIs (.ex j t1 h1 n1) e t' h' n' from hr2)
        obtain ⟨ab, k⟩ := code_ok hnt hy hcl hgf hdr x i hi t h n (.exit j) t' h' n' (by rw [hA]; exact brIs_ex.2 ⟨rfl, rfl, rfl, rfl⟩) hf
        refine ⟨ab, fun a m w F s fr base mk Q hQ => wpIn_block (k a m w F s fr base mk _ fun a1 w1 m1 d F1 T1 => ?_)⟩
        have hne : ¬ j = id := fun q => by subst q; simp at hj
        simp only [Exit.inBlock, hne, if_false]
        exact hQ a1 w1 m1 d F1 T1
    | rt t1 h1 n1 =>
      rw [hA] at hr1
      obtain ⟨rfl, rfl, rfl, rfl⟩ := brIs_rt.1 (show brIs (.rt t1 h1 n1) e t' h' n' from hr1)
      obtain ⟨ab, k⟩ := code_ok hnt hy hcl hgf hdr x i hi t h n .ret t' h' n' (by rw [hA]; exact brIs_rt.2 ⟨rfl, rfl, rfl, rfl⟩) hf
      exact ⟨ab, fun a m w F s fr base mk Q hQ => wpIn_block (k a m w F s fr base mk _ hQ)⟩
    | bad l => rw [hA] at hr1; exact absurd hr1 brIs_bad
  | .loop x, i, hi => by
    have hR := rd_rounds (code_ok hnt hy hcl hgf hdr x i hi) 20
    intro t h n e t' h' n' hr hf
    have hr1 : brIs (lpC (rounds (code ys cl fl (comp P nt fi x i)) 20 t h n)) e t' h' n' := hr
    cases hA : rounds (code ys cl fl (comp P nt fi x i)) 20 t h n with
    | nx t1 h1 n1 => rw [hA] at hr1; exact absurd hr1 brIs_bad
    | bad l => rw [hA] at hr1; exact absurd hr1 brIs_bad
    | ex j t1 h1 n1 =>
      rw [hA] at hr1
      obtain ⟨rfl, rfl, rfl, rfl⟩ := brIs_ex.1 (show brIs (.ex j t1 h1 n1) e t' h' n' from hr1)
      obtain ⟨ab, k⟩ := hR t h n (.exit j) t' h' n' (by rw [hA]; exact brIs_ex.2 ⟨rfl, rfl, rfl, rfl⟩) hf
      exact ⟨ab, fun a m w F s fr base mk Q hQ => wpIn_loop_rounds _ (k a m w F s fr base mk 0 Q hQ)⟩
    | rt t1 h1 n1 =>
      rw [hA] at hr1
      obtain ⟨rfl, rfl, rfl, rfl⟩ := brIs_rt.1 (show brIs (.rt t1 h1 n1) e t' h' n' from hr1)
      obtain ⟨ab, k⟩ := hR t h n .ret t' h' n' (by rw [hA]; exact brIs_rt.2 ⟨rfl, rfl, rfl, rfl⟩) hf
      exact ⟨ab, fun a m w F s fr base mk Q hQ => wpIn_loop_rounds _ (k a m w F s fr base mk 0 Q hQ)⟩
  | .scope x, i, hi => by
    intro t h n e t' h' n' hr hf
    obtain ⟨ab, k⟩ := code_ok hnt hy hcl hgf hdr x i hi t h n e t' h' n' hr hf
    refine ⟨ab, fun a m w F s fr base mk Q hQ => wpIn_scope_straight (k a m w F s fr base mk _ fun a1 w1 m1 d1 F1 T1 => ?_)⟩
    rcases hr with ⟨_, rfl⟩ | ⟨_, _, rfl⟩ | ⟨_, rfl⟩ <;> exact hQ a1 w1 m1 d1 F1 T1
  | .rangeFunc g0 ps x y, i, hi => by
    obtain ⟨h1, h2⟩ := hi 0 (ps, x, y) rfl
    cases hps : ps.toList.all (fun t => decide (t < nt)) with
    | false =>
      intro t h n e t' h' n' hr hf
      have e1 : comp P nt fi (.rangeFunc g0 ps x y) i = .cd (.c .un) .sk .sk := if_pos hps
      rw [e1] at hr
      exact absurd (show brIs (.bad [98]) e t' h' n' from hr) brIs_bad
    | true =>
      have e1 : comp P nt fi (.rangeFunc g0 ps x y) i = .rf (opd P nt g0) (keyAt fi i) (svOf nt (slotsOf ps) (comp P nt fi x (i + 1)) (comp P nt fi y (i + 1 + (rngs x).length))) := if_neg (by rw [hps]; simp)
      rw [e1]
      exact rf_ok hnt hcl hgf h1 h2 hps
  | .goto .., _, _ | .refuse .., _, _ => by
    intro t h n e t' h' n' hr hf
    exact absurd (show brIs (.bad [98]) e t' h' n' from hr) brIs_bad
end Go.Rn
