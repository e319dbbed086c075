/-
  One text of a symbolic evaluator over the model, shown sound once for every program: no statement is claimed here.
-/
import Derived.Test.YtjhknkpkihpknaaDoorRnS
import Derived.LoopN
import Derived.Scope
namespace Go.Rn
variable {ρ : Nat → Int} {m m' : Mp} {P : Program}
variable {g fl n n' nt : Nat} {h h' : HT} {t : FT} {a : Act} {w : World} {v : RV} {ys : Ys} {cl : Cl'}
/-- a code's weakest condition, as BdOk takes it -/
abbrev Wp (P : Program) (c : Code) : (Exit → Act → World → Prop) → Act → World → Prop := fun Q a w => c.wp P Q a w
theorem Tr.frame {h2 : HT} {n2 : Nat} {m2 : Mp} {w2 : World} (T : Tr ρ g fl h n m w h2 n2 m2 w2) (f : Fresh n n2 m) {nt : Nat} {t : FT} {tmps : Array Value} (F : Fr P ρ m nt t tmps) : Fr P ρ m2 nt t tmps := F.le (T.ext.le f)
theorem bd_andThen {A B : Bd} {X : Code} {W : (Exit → Act → World → Prop) → Act → World → Prop} (hA : BdOk P ρ g fl nt A (Wp P X)) {WB : (Exit → Act → World → Prop) → Act → World → Prop} (hB : BdOk P ρ g fl nt B WB)
    (hW : ∀ Q a w, X.wp P (Exit.then (WB Q) Q) a w → W Q a w) : BdOk P ρ g fl nt (fun t h n => andThen (A t h n) B) W := by
  intro t h n e t' h' n' hr hf
  have hr1 : brIs (andThen (A t h n) B) e t' h' n' := hr
  cases hA1 : A t h n with
  | nx t1 h1 n1 =>
    rw [hA1] at hr1
    obtain ⟨ab1, k1⟩ := hA t h n .normal t1 h1 n1 (by rw [hA1]; exact brIs_nx.2 ⟨rfl, rfl, rfl, rfl⟩) hf
    obtain ⟨ab2, k2⟩ := hB t1 h1 n1 e t' h' n' hr1 (Nat.le_trans hf ab1.le)
    refine ⟨ab1.trans ab2, fun a m w F s fr Q hQ => hW _ _ _ (k1 a m w F s (fr.left ab2.le) _ fun a1 w1 m1 d1 F1 T1 => ?_)⟩
    exact k2 a1 m1 w1 F1 T1.sim (fr.right T1.ext ab1.le) Q fun a2 w2 m2 d2 F2 T2 => hQ a2 w2 m2 (d2.trans d1) F2 (T1.trans T2 ab1.le ab2.le)
  | ex id t1 h1 n1 =>
    rw [hA1] at hr1
    obtain ⟨rfl, rfl, rfl, rfl⟩ := brIs_ex.1 (show brIs (.ex id t1 h1 n1) e t' h' n' from hr1)
    obtain ⟨ab1, k1⟩ := hA t h n (.exit id) t' h' n' (by rw [hA1]; exact brIs_ex.2 ⟨rfl, rfl, rfl, rfl⟩) hf
    exact ⟨ab1, fun a m w F s fr Q hQ => hW _ _ _ (k1 a m w F s fr _ fun a1 w1 m1 d1 F1 T1 => hQ a1 w1 m1 d1 F1 T1)⟩
  | rt t1 h1 n1 =>
    rw [hA1] at hr1
    obtain ⟨rfl, rfl, rfl, rfl⟩ := brIs_rt.1 (show brIs (.rt t1 h1 n1) e t' h' n' from hr1)
    obtain ⟨ab1, k1⟩ := hA t h n .ret t' h' n' (by rw [hA1]; exact brIs_rt.2 ⟨rfl, rfl, rfl, rfl⟩) hf
    exact ⟨ab1, fun a m w F s fr Q hQ => hW _ _ _ (k1 a m w F s fr _ fun a1 w1 m1 d1 F1 T1 => hQ a1 w1 m1 d1 F1 T1)⟩
  | bad l => rw [hA1] at hr1; exact absurd hr1 brIs_bad
/-- so many rounds: each of N more lies behind -/
def RdOk (P : Program) (ρ : Nat → Int) (g fl nt : Nat) (F : Bd) (X : Code) (k : Nat) : Prop := ∀ t h n e t' h' n', brIs (F t h n) e t' h' n' → fl ≤ n →
  Ab fl h n h' n' ∧ ∀ (a : Act) (m : Mp) (w : World), Fr P ρ m nt t a.tmps → Sim ρ m g h w → Fresh n n' m → ∀ (N : Nat) (Q : Exit → Act → World → Prop),
    (∀ a' w' m', a'.defers = a.defers → Fr P ρ m' nt t' a'.tmps → Tr ρ g fl h n m w h' n' m' w' → Exit.then (Code.rounds P X Q N) Q e a' w') → Code.rounds P X Q (N + k) a w
theorem rd_rounds {A : Bd} {X : Code} (hA : BdOk P ρ g fl nt A (Wp P X)) : ∀ k, RdOk P ρ g fl nt (rounds A k) X (2 ^ k)
  | 0 => by
    intro t h n e t' h' n' hr hf
    obtain ⟨ab1, k1⟩ := hA t h n e t' h' n' hr hf
    refine ⟨ab1, fun a m w F s fr N Q hQ => ?_⟩
    show Code.rounds P X Q (N + 1) a w
    rw [rounds_succ]
    exact k1 a m w F s fr _ hQ
  | k + 1 => by
    have ih := rd_rounds hA k
    intro t h n e t' h' n' hr hf
    have hr1 : brIs (andThen (rounds A k t h n) (rounds A k)) e t' h' n' := hr
    have e2 : ∀ N, N + 2 ^ (k + 1) = (N + 2 ^ k) + 2 ^ k := fun N => by rw [Nat.pow_succ]; omega
    cases hA1 : rounds A k t h n with
    | nx t1 h1 n1 =>
      rw [hA1] at hr1
      obtain ⟨ab1, k1⟩ := ih t h n .normal t1 h1 n1 (by rw [hA1]; exact brIs_nx.2 ⟨rfl, rfl, rfl, rfl⟩) hf
      obtain ⟨ab2, k2⟩ := ih t1 h1 n1 e t' h' n' hr1 (Nat.le_trans hf ab1.le)
      refine ⟨ab1.trans ab2, fun a m w F s fr N Q hQ => ?_⟩
      rw [e2]
      refine k1 a m w F s (fr.left ab2.le) (N + 2 ^ k) Q fun a1 w1 m1 d1 F1 T1 => ?_
      exact k2 a1 m1 w1 F1 T1.sim (fr.right T1.ext ab1.le) N Q fun a2 w2 m2 d2 F2 T2 => hQ a2 w2 m2 (d2.trans d1) F2 (T1.trans T2 ab1.le ab2.le)
    | ex id t1 h1 n1 =>
      rw [hA1] at hr1
      obtain ⟨rfl, rfl, rfl, rfl⟩ := brIs_ex.1 (show brIs (.ex id t1 h1 n1) e t' h' n' from hr1)
      obtain ⟨ab1, k1⟩ := ih t h n (.exit id) t' h' n' (by rw [hA1]; exact brIs_ex.2 ⟨rfl, rfl, rfl, rfl⟩) hf
      exact ⟨ab1, fun a m w F s fr N Q hQ => by rw [e2]; exact k1 a m w F s fr _ Q fun a1 w1 m1 d1 F1 T1 => hQ a1 w1 m1 d1 F1 T1⟩
    | rt t1 h1 n1 =>
      rw [hA1] at hr1
      obtain ⟨rfl, rfl, rfl, rfl⟩ := brIs_rt.1 (show brIs (.rt t1 h1 n1) e t' h' n' from hr1)
      obtain ⟨ab1, k1⟩ := ih t h n .ret t' h' n' (by rw [hA1]; exact brIs_rt.2 ⟨rfl, rfl, rfl, rfl⟩) hf
      exact ⟨ab1, fun a m w F s fr N Q hQ => by rw [e2]; exact k1 a m w F s fr _ Q fun a1 w1 m1 d1 F1 T1 => hQ a1 w1 m1 d1 F1 T1⟩
    | bad l => rw [hA1] at hr1; exact absurd hr1 brIs_bad
theorem ops_nx : ∀ (l : List RQ) (t : FT) (h : HT) (n : Nat), (∃ a b c, ops ys cl fl l t h n = .nx a b c) ∨ ∃ k, ops ys cl fl l t h n = .bad k
  | [], t, h, n => .inl ⟨t, h, n, rfl⟩
  | .q d g _ o :: l, t, h, n => by
    show (∃ a b c, opsW ys cl fl d o (ops ys cl fl l) t h n (want t g) = .nx a b c) ∨ ∃ k, opsW ys cl fl d o (ops ys cl fl l) t h n (want t g) = .bad k
    cases want t g with
    | y =>
      show (∃ a b c, opsOk d t (step o ys cl fl 1152921504606846976 t h n) (ops ys cl fl l) = .nx a b c) ∨ ∃ k, opsOk d t (step o ys cl fl 1152921504606846976 t h n) (ops ys cl fl l) = .bad k
      cases step o ys cl fl 1152921504606846976 t h n with
      | ok v h1 n1 =>
        show (∃ a b c, fT (put t d v) (fun t => ops ys cl fl l t h1 n1) = .nx a b c) ∨ ∃ k, fT (put t d v) (fun t => ops ys cl fl l t h1 n1) = .bad k
        rw [fT_eq]; exact ops_nx l _ _ _
      | bad k => exact .inr ⟨k, rfl⟩
    | n =>
      show (∃ a b c, fT (put t d .ud) (fun t => ops ys cl fl l t h n) = .nx a b c) ∨ ∃ k, fT (put t d .ud) (fun t => ops ys cl fl l t h n) = .bad k
      rw [fT_eq]; exact ops_nx l _ _ _
    | u => exact .inr ⟨[99], rfl⟩
/-- a drawn region's word -/
def DrOk (P : Program) (ρ : Nat → Int) (g fl nt : Nat) (ys : Ys) (cl : Cl') : Prop := ∀ id (os : Array Oper), BdOk P ρ g fl nt (fun t h n => dops ys cl fl n (compDr P nt os) t h n [] [h]) (Wp P (.region id os true))
/-- a piece of code -/
theorem code_ok (hy : YsOk ρ ys) (hcl : ClOk P ρ g cl) (hgf : g ≤ fl) (hdr : DrOk P ρ g fl nt ys cl) : ∀ (c : Code), BdOk P ρ g fl nt (code ys cl fl (comp P nt c)) (Wp P c)
  | .skip => by
    intro t h n e t' h' n' hr hf
    obtain ⟨rfl, rfl, rfl, rfl⟩ := brIs_nx.1 (show brIs (.nx t h n) e t' h' n' from hr)
    exact ⟨Ab.refl _ _ _, fun a m w F s _ Q hQ => wp_skip (hQ a w m rfl F (Tr.refl s))⟩
  | .label l => by
    intro t h n e t' h' n' hr hf
    obtain ⟨rfl, rfl, rfl, rfl⟩ := brIs_nx.1 (show brIs (.nx t h n) e t' h' n' from hr)
    exact ⟨Ab.refl _ _ _, fun a m w F s _ Q hQ => wp_label (hQ a w m rfl F (Tr.refl s))⟩
  | .exit id => by
    intro t h n e t' h' n' hr hf
    obtain ⟨rfl, rfl, rfl, rfl⟩ := brIs_ex.1 (show brIs (.ex id t h n) e t' h' n' from hr)
    exact ⟨Ab.refl _ _ _, fun a m w F s _ Q hQ => wp_exit (hQ a w m rfl F (Tr.refl s))⟩
  | .ret => by
    intro t h n e t' h' n' hr hf
    obtain ⟨rfl, rfl, rfl, rfl⟩ := brIs_rt.1 (show brIs (.rt t h n) e t' h' n' from hr)
    exact ⟨Ab.refl _ _ _, fun a m w F s _ Q hQ => wp_ret (hQ a w m rfl F (Tr.refl s))⟩
  | .region id os d => by
    cases d with
    | true => exact hdr id os
    | false =>
      intro t h n e t' h' n' hr hf
      obtain ⟨ab, k⟩ := ops_ok hy hcl hgf (os := os) (nt := nt) os.toList 0 (fun i o hi => by simpa using hi) t h n e t' h' n' hr hf
      have hen : e = .normal := by
        have hr1 : brIs (ops ys cl fl (compReg P nt os) t h n) e t' h' n' := hr
        rcases ops_nx (ys := ys) (cl := cl) (fl := fl) (compReg P nt os) t h n with ⟨a, b, c, q⟩ | ⟨l, q⟩
        · rw [q] at hr1; exact (brIs_nx.1 hr1).1
        · rw [q] at hr1; exact absurd hr1 brIs_bad
      subst hen
      refine ⟨ab, fun a m w F s fr Q hQ => wp_region ?_⟩
      have := k a m w F s fr Q hQ
      simpa [List.range_eq_range'] using this
  | .seq x y => bd_andThen (code_ok hy hcl hgf hdr x) (code_ok hy hcl hgf hdr y) (fun Q a w q => wp_seq q)
  | .cond c x y => by
    intro t h n e t' h' n' hr hf
    have hr1 : brIs (cdC (ev t (opd P nt c)) (code ys cl fl (comp P nt x)) (code ys cl fl (comp P nt y)) t h n) e t' h' n' := hr
    unfold cdC at hr1
    cases hc : ev t (opd P nt c) <;> rw [hc] at hr1 <;> first | exact absurd hr1 brIs_bad | skip
    rename_i b
    have hv : ∀ {a : Act} {m : Mp}, Fr P ρ m nt t a.tmps → a.eval c = .bool b := fun {a} {m} F => by
      have := opd_ok F c (by rw [hc]; simp)
      rw [hc] at this
      exact this
    cases b with
    | true =>
      obtain ⟨ab, k⟩ := code_ok hy hcl hgf hdr x t h n e t' h' n' hr1 hf
      exact ⟨ab, fun a m w F s fr Q hQ => wp_cond_true (hv F) (k a m w F s fr Q hQ)⟩
    | false =>
      obtain ⟨ab, k⟩ := code_ok hy hcl hgf hdr y t h n e t' h' n' hr1 hf
      exact ⟨ab, fun a m w F s fr Q hQ => wp_cond_false (hv F) (k a m w F s fr Q hQ)⟩
  | .block id x => by
    intro t h n e t' h' n' hr hf
    have hr1 : brIs (blC (code ys cl fl (comp P nt x) t h n) id) e t' h' n' := hr
    cases hA : code ys cl fl (comp P nt x) t h n with
    | nx t1 h1 n1 =>
      rw [hA] at hr1
      obtain ⟨rfl, rfl, rfl, rfl⟩ := brIs_nx.1 (show brIs (.nx t1 h1 n1) e t' h' n' from hr1)
      obtain ⟨ab, k⟩ := code_ok hy hcl hgf hdr x t h n .normal t' h' n' (by rw [hA]; exact brIs_nx.2 ⟨rfl, rfl, rfl, rfl⟩) hf
      exact ⟨ab, fun a m w F s fr Q hQ => wp_block (k a m w F s fr _ hQ)⟩
    | ex j t1 h1 n1 =>
      rw [hA] at hr1
      have hr2 : brIs (bf (Nat.beq j id) (.nx t1 h1 n1) (.ex j t1 h1 n1)) e t' h' n' := hr1
      cases hj : Nat.beq j id with
      | true =>
        rw [hj] at hr2
        obtain ⟨rfl, rfl, rfl, rfl⟩ := brIs_nx.1 (show brIs (.nx t1 h1 n1) e t' h' n' from hr2)
        obtain ⟨ab, k⟩ := code_ok hy hcl hgf hdr x t h n (.exit j) t' h' n' (by rw [hA]; exact brIs_ex.2 ⟨rfl, rfl, rfl, rfl⟩) hf
        refine ⟨ab, fun a m w F s fr Q hQ => wp_block (k a m w F s fr _ fun a1 w1 m1 d F1 T1 => ?_)⟩
        simp only [Exit.inBlock, beq_ok hj, if_true]
        exact hQ a1 w1 m1 d F1 T1
      | false =>
        rw [hj] at hr2
        obtain ⟨rfl, rfl, rfl, rfl⟩ := brIs_ex.1 (show brIs (.ex j t1 h1 n1) e t' h' n' from hr2)
        obtain ⟨ab, k⟩ := code_ok hy hcl hgf hdr x t h n (.exit j) t' h' n' (by rw [hA]; exact brIs_ex.2 ⟨rfl, rfl, rfl, rfl⟩) hf
        refine ⟨ab, fun a m w F s fr Q hQ => wp_block (k a m w F s fr _ fun a1 w1 m1 d F1 T1 => ?_)⟩
        have hne : ¬ j = id := fun q => by subst q; simp at hj
        simp only [Exit.inBlock, hne, if_false]
        exact hQ a1 w1 m1 d F1 T1
    | rt t1 h1 n1 =>
      rw [hA] at hr1
      obtain ⟨rfl, rfl, rfl, rfl⟩ := brIs_rt.1 (show brIs (.rt t1 h1 n1) e t' h' n' from hr1)
      obtain ⟨ab, k⟩ := code_ok hy hcl hgf hdr x t h n .ret t' h' n' (by rw [hA]; exact brIs_rt.2 ⟨rfl, rfl, rfl, rfl⟩) hf
      exact ⟨ab, fun a m w F s fr Q hQ => wp_block (k a m w F s fr _ hQ)⟩
    | bad l => rw [hA] at hr1; exact absurd hr1 brIs_bad
  | .loop x => by
    have hR := rd_rounds (code_ok hy hcl hgf hdr x) 20
    intro t h n e t' h' n' hr hf
    have hr1 : brIs (lpC (rounds (code ys cl fl (comp P nt x)) 20 t h n)) e t' h' n' := hr
    cases hA : rounds (code ys cl fl (comp P nt x)) 20 t h n with
    | nx t1 h1 n1 => rw [hA] at hr1; exact absurd hr1 brIs_bad
    | bad l => rw [hA] at hr1; exact absurd hr1 brIs_bad
    | ex j t1 h1 n1 =>
      rw [hA] at hr1
      obtain ⟨rfl, rfl, rfl, rfl⟩ := brIs_ex.1 (show brIs (.ex j t1 h1 n1) e t' h' n' from hr1)
      obtain ⟨ab, k⟩ := hR t h n (.exit j) t' h' n' (by rw [hA]; exact brIs_ex.2 ⟨rfl, rfl, rfl, rfl⟩) hf
      exact ⟨ab, fun a m w F s fr Q hQ => wp_loop_rounds _ (k a m w F s fr 0 Q hQ)⟩
    | rt t1 h1 n1 =>
      rw [hA] at hr1
      obtain ⟨rfl, rfl, rfl, rfl⟩ := brIs_rt.1 (show brIs (.rt t1 h1 n1) e t' h' n' from hr1)
      obtain ⟨ab, k⟩ := hR t h n .ret t' h' n' (by rw [hA]; exact brIs_rt.2 ⟨rfl, rfl, rfl, rfl⟩) hf
      exact ⟨ab, fun a m w F s fr Q hQ => wp_loop_rounds _ (k a m w F s fr 0 Q hQ)⟩
  | .scope x => by
    intro t h n e t' h' n' hr hf
    obtain ⟨ab, k⟩ := code_ok hy hcl hgf hdr x t h n e t' h' n' hr hf
    refine ⟨ab, fun a m w F s fr Q hQ => wp_scope_straight (k a m w F s fr _ fun a1 w1 m1 d1 F1 T1 => ?_)⟩
    rcases hr with ⟨_, rfl⟩ | ⟨_, _, rfl⟩ | ⟨_, rfl⟩ <;> exact hQ a1 w1 m1 d1 F1 T1
  | .goto .. | .rangeFunc .. | .refuse .. => by
    intro t h n e t' h' n' hr hf
    exact absurd (show brIs (.bad [98]) e t' h' n' from hr) brIs_bad
end Go.Rn
