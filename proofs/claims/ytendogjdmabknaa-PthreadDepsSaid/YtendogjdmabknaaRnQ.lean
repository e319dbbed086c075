/-
  One text of a symbolic evaluator over the model, shown sound once for every program: no statement is claimed here.
-/
import Derived.Test.YtendogjdmabknaaRnPn
namespace Go.Rn
variable {ρ : Nat → Int} {m m' : Mp} {P : Program}
variable {g fl n n' nt lim : Nat} {h h' : HT} {t : FT} {a : Act} {o : Oper} {w : World} {v : RV} {ys : Ys} {cl : Cl'}
theorem step_bad (e : step badP ys cl fl lim t h n = .ok v h' n') : False := by
  have e1 : gT (SR.bad [63]) (RV.un) (fun c => okV (chGet c 0) h n 64) = .ok v h' n' := e
  cases e1
theorem ok_mvP (F : Fr P ρ m nt t a.tmps) (s : Sim P ρ m g h w) {x : Operand} (ho : o.op = .move x ∨ o.op = .assign x) (e : step (mvP P nt x) ys cl fl lim t h n = .ok v h' n') : Ok1 P ρ g fl o a m w h n v h' n' := by
  unfold mvP at e
  split at e
  · have e1 : SR.ok .un h n = .ok v h' n' := e
    cases e1
    refine Ok1.quiet (u := a.eval x) s ?_ trivial
    rcases ho with ho | ho <;> simp [execOp, ho]
  · exact ok_mv F s ho e
/-- an operation's word is the model's -/
theorem step_ok (hy : YsOk ρ ys) (hcl : ClOk P ρ g cl) (F : Fr P ρ m nt t a.tmps) (s : Sim P ρ m g h w) (hgf : g ≤ fl) (hf : fl ≤ n) {rp : RP} (hc : compOp P nt o.op = some rp)
    (e : step rp ys cl fl lim t h n = .ok v h' n') : Ok1 P ρ g fl o a m w h n v h' n' := by
  cases ho : o.op with
  | move x => rw [ho] at hc; cases hc; exact ok_mvP F s (.inl ho) e
  | assign x => rw [ho] at hc; cases hc; exact ok_mvP F s (.inr ho) e
  | pick c x y => rw [ho] at hc; cases hc; exact ok_pick F s ho e
  | alloc ty =>
    rw [ho] at hc
    have hc1 : (zeroOf P ty).bind (fun z => some (.al (chain z.cells.toList))) = some rp := hc
    obtain ⟨z, hz, e1⟩ := Option.bind_eq_some_iff.1 hc1
    cases e1
    exact ok_al s hf ho hz e
  | box ty x => rw [ho] at hc; cases hc; exact ok_bx F s hf ho e
  | build ty ps =>
    rw [ho] at hc
    simp only [compOp, Option.bind_eq_bind, Option.bind_eq_some_iff] at hc
    obtain ⟨z, hz, l, hl, h1⟩ := hc
    split at h1
    · rename_i hk
      cases h1
      exact ok_bd F s ho hz hl hk e
    · cases h1
  | buildSlice ty len ps =>
    rw [ho] at hc
    simp only [compOp] at hc
    split at hc
    · rename_i el hu
      simp only [Option.bind_eq_bind, Option.bind_eq_some_iff] at hc
      obtain ⟨sz, hs, z, hz, h1⟩ := hc
      split at h1
      · rename_i hk
        cases h1
        exact ok_bs F s hf ho hu hs hz hk.1 hk.2.1 hk.2.2.1 hk.2.2.2 e
      · cases h1
    · cases hc
  | load ty x =>
    rw [ho] at hc
    simp only [compOp, Option.bind_eq_bind, Option.bind_eq_some_iff] at hc
    obtain ⟨sz, hs, gg, hg, h1⟩ := hc
    cases h1
    exact ok_ld F s hf ho hs hg e
  | store ty x y =>
    rw [ho] at hc
    simp only [compOp, Option.bind_eq_bind, Option.bind_eq_some_iff] at hc
    obtain ⟨sz, hs, h1⟩ := hc
    split at h1
    · rename_i h0
      cases h1
      exact ok_st F s hf hgf h0 ho hs e
    · cases h1
  | nilCheck x => rw [ho] at hc; cases hc; exact ok_nc F s ho e
  | binOp op ty x y yt =>
    rw [ho] at hc
    simp only [compOp] at hc
    split at hc
    · split at hc
      · rename_i hu; cases hc; exact ok_bq F s (.inl ⟨rfl, rfl⟩) ho hu e
      · rename_i el hu; cases hc; exact ok_nq F s (.inl ⟨rfl, rfl⟩) ho (.inl ⟨rfl, el, hu⟩) e
      · rename_i el hu; cases hc; exact ok_nq F s (.inl ⟨rfl, rfl⟩) ho (.inr (.inl ⟨rfl, el, hu⟩)) e
      · rename_i a b c hu; cases hc; exact ok_nq F s (.inl ⟨rfl, rfl⟩) ho (.inr (.inr ⟨rfl, a, b, c, hu⟩)) e
      · rename_i fs hu; cases hc; exact ok_cse F s hy (.inl ⟨rfl, rfl⟩) ho hu e
      · rename_i len el hu; cases hc; exact ok_cae F s hy (.inl ⟨rfl, rfl⟩) ho hu e
      · cases hc; exact ok_bn F s hy ho e
    · split at hc
      · rename_i hu; cases hc; exact ok_bq F s (.inr ⟨rfl, rfl⟩) ho hu e
      · rename_i el hu; cases hc; exact ok_nq F s (.inr ⟨rfl, rfl⟩) ho (.inl ⟨rfl, el, hu⟩) e
      · rename_i el hu; cases hc; exact ok_nq F s (.inr ⟨rfl, rfl⟩) ho (.inr (.inl ⟨rfl, el, hu⟩)) e
      · rename_i a b c hu; cases hc; exact ok_nq F s (.inr ⟨rfl, rfl⟩) ho (.inr (.inr ⟨rfl, a, b, c, hu⟩)) e
      · rename_i fs hu; cases hc; exact ok_cse F s hy (.inr ⟨rfl, rfl⟩) ho hu e
      · rename_i len el hu; cases hc; exact ok_cae F s hy (.inr ⟨rfl, rfl⟩) ho hu e
      · cases hc; exact ok_bn F s hy ho e
    · cases hc; exact ok_bn F s hy ho e
  | unOp op ty x =>
    rw [ho] at hc
    simp only [compOp] at hc
    split at hc
    · cases hc; exact ok_ng F s ho e
    · cases hc; exact ok_nt F s ho e
    · cases hc
  | convert sr ds x =>
    rw [ho] at hc
    simp only [compOp] at hc
    split at hc
    · rename_i d k h1 h2; cases hc; exact ok_cv F s ho h1 h2 e
    · cases hc
  | makeFunc fn first captured =>
    rw [ho] at hc
    simp only [compOp] at hc
    split at hc
    · rename_i f hf1
      split at hc
      · rename_i hlt; cases hc; exact ok_mf F s ho hf1 hlt e
      · cases hc
    · rename_i f x hf1
      split at hc
      · rename_i hlt; cases hc; exact ok_mb F s hlt ho hf1 e
      · cases hc
    · cases hc
  | makeSlice ty l c =>
    rw [ho] at hc
    simp only [compOp] at hc
    split at hc
    · rename_i el hu
      simp only [Option.bind_eq_bind, Option.bind_eq_some_iff] at hc
      obtain ⟨i, hi, z, hz, h1⟩ := hc
      split at h1
      · rename_i hk
        cases h1
        exact ok_ms F s hf ho hu hi hz hk.1 hk.2.1 hk.2.2.1 hk.2.2.2 e
      · cases h1
    · cases hc
  | slice ty x lo hi mx =>
    rw [ho] at hc
    simp only [compOp] at hc
    split at hc
    · rename_i el hu
      simp only [Option.bind_eq_bind, Option.bind_eq_some_iff] at hc
      obtain ⟨sz, hs, h1⟩ := hc
      split at h1
      · rename_i hk
        cases h1
        exact ok_sc F s ho hu hs hk.2 e
      · cases h1
    · rename_i hu
      split at hc
      · rename_i hk
        cases hc
        exact ok_ss F s ho hu hk e
      · cases hc
    · rename_i k el hu
      simp only [Option.bind_eq_bind, Option.bind_eq_some_iff] at hc
      obtain ⟨sz, hs, h1⟩ := hc
      split at h1
      · rename_i hk
        cases h1
        exact ok_sa F s ho hu hs hk.2 e
      · cases h1
    · cases hc
  | fieldAddr ty x k =>
    rw [ho] at hc
    simp only [compOp] at hc
    split at hc
    · rename_i fs hu
      simp only [Option.bind_eq_bind, Option.bind_eq_some_iff] at hc
      obtain ⟨f, hf1, sz, hs, h1⟩ := hc
      split at h1
      · rename_i h0
        cases h1
        exact ok_fa F s ho hu hf1 hs h0 e
      · cases h1
    · cases hc
  | field ty x k =>
    rw [ho] at hc
    simp only [compOp] at hc
    split at hc
    · rename_i fs hu
      simp only [Option.bind_eq_bind, Option.bind_eq_some_iff] at hc
      obtain ⟨f, hf1, sz, hs, gg, hg, h1⟩ := hc
      cases h1
      exact ok_fd F s ho hu hf1 hs hg e
    · cases hc
  | indexAddr ty x i =>
    rw [ho] at hc
    simp only [compOp] at hc
    split at hc
    · rename_i el hu
      simp only [Option.bind_eq_bind, Option.bind_eq_some_iff] at hc
      obtain ⟨sz, hs, h1⟩ := hc
      split at h1
      · cases h1; exact ok_ia F s ho hu hs e
      · cases h1
    · rename_i k el hu
      simp only [Option.bind_eq_bind, Option.bind_eq_some_iff] at hc
      obtain ⟨sz, hs, h1⟩ := hc
      split at h1
      · cases h1; exact ok_ip F s ho hu hs e
      · cases h1
    · cases hc
  | index ty x i =>
    rw [ho] at hc
    simp only [compOp] at hc
    split at hc
    · rename_i k el hu
      simp only [Option.bind_eq_bind, Option.bind_eq_some_iff] at hc
      obtain ⟨sz, hs, gg, hg, h1⟩ := hc
      split at h1
      · cases h1; exact ok_ix F s ho hu hs hg e
      · cases h1
    · rename_i hu; cases hc; exact ok_sx F s ho hu e
    · cases hc
  | extract x k => rw [ho] at hc; cases hc; exact ok_ex F s ho e
  | makeInterface ty x =>
    rw [ho] at hc
    simp only [compOp] at hc
    split at hc
    · cases hc
    · rename_i d hne hu; cases hc; exact ok_mkIf F s ho hu hne e
    · cases hc
  | typeAssert x xt ty two =>
    rw [ho] at hc
    simp only [compOp] at hc
    split at hc
    · cases hc
    · rename_i d hne hu
      simp only [Option.bind_eq_bind, Option.bind_eq_some_iff] at hc
      obtain ⟨z, hz, h1⟩ := hc
      cases h1
      exact ok_ta F s ho hu hne hz e
    · cases hc
  | call c =>
    rw [ho] at hc
    simp only [compOp, compCall] at hc
    split at hc
    · rename_i f hcc
      split at hc
      · rename_i hk; cases hc; exact ok_cl F s hcl hgf hf ho hcc hk.1 hk.2 e
      · cases hc
    · rename_i x _ hcc; cases hc; exact ok_cf F s hcl hgf hf ho hcc e
    · rename_i x name hcc; cases hc; exact ok_iv F s hcl hgf hf ho hcc e
    · rename_i b hcc
      split at hc
      · rename_i x ty hx ht
        split at hc
        · rename_i hu; cases hc; exact ok_ls F s ho hcc hx ht hu e
        · rename_i el hu; cases hc; exact ok_ln F s ho hcc hx ht hu e
        · rename_i k el hu; cases hc; exact ok_la F s ho (.inl hcc) hx ht hu e
        · cases hc
      · rename_i x ty hx ht
        split at hc
        · rename_i el hu; cases hc; exact ok_cp F s ho hcc hx ht hu e
        · rename_i k el hu; cases hc; exact ok_la F s ho (.inr hcc) hx ht hu e
        · cases hc
      · rename_i x y ty ty2 hx ht
        split at hc
        · rename_i el hu heq
          have : ty = ty2 := by simpa using heq
          subst this
          simp only [Option.bind_eq_bind, Option.bind_eq_some_iff] at hc
          obtain ⟨i, hi, z, hz, h1⟩ := hc
          split at h1
          · rename_i hk
            cases h1
            exact ok_ap F s hgf hf ho hcc hx ht hu hi hz hk.1 hk.2.2 hk.2.1 e
          · cases h1
        · rename_i el hu heq
          split at hc
          · rename_i k0 hu2
            simp only [Option.bind_eq_bind, Option.bind_eq_some_iff] at hc
            obtain ⟨i, hi, z, hz, h1⟩ := hc
            split at h1
            · rename_i hk
              cases h1
              exact ok_az F s hf ho hcc hx ht hu hu2 hi hz hk.1 hk.2.2.1 hk.2.1 hk.2.2.2 e
            · cases h1
          · cases hc
        · cases hc
      · rename_i x y ty ty2 hx ht
        split at hc
        · rename_i el _ hu _
          simp only [Option.bind_eq_bind, Option.bind_eq_some_iff] at hc
          obtain ⟨sz, hs, h1⟩ := hc
          split at h1
          · rename_i h0
            cases h1
            exact ok_cy F s hgf hf ho hcc hx ht hu hs h0 e
          · cases h1
        · cases hc
      · rename_i x ty hx ht
        split at hc
        · rename_i el hu
          simp only [Option.bind_eq_bind, Option.bind_eq_some_iff] at hc
          obtain ⟨i, hi, z, hz, h1⟩ := hc
          split at h1
          · rename_i hk
            cases h1
            exact ok_cr F s hgf hf ho hcc hx ht hu hi hz hk.1 hk.2.1 hk.2.2 e
          · cases h1
        · cases hc
      · rename_i x y hx; cases hc; exact ok_mm F s ho (.inl ⟨hcc, rfl⟩) hx e
      · rename_i x y hx; cases hc; exact ok_mm F s ho (.inr ⟨hcc, rfl⟩) hx e
      · cases hc
  | makeMap ty r =>
    rw [ho] at hc
    simp only [compOp] at hc
    split at hc
    · rename_i kt el ht hr
      cases hc
      exact ok_mk s hf ho ht hr e
    · cases hc
  | insert ty mo ko xo =>
    rw [ho] at hc
    simp only [compOp] at hc
    split at hc
    · rename_i kt el ht
      simp only [Option.bind_eq_bind, Option.bind_eq_some_iff] at hc
      obtain ⟨q, hq, h1⟩ := hc
      cases h1
      exact ok_mi F s hgf (.inl ho) ht hq e
    · cases hc
  | mapUpdate ty mo ko xo =>
    rw [ho] at hc
    simp only [compOp] at hc
    split at hc
    · rename_i kt el ht
      simp only [Option.bind_eq_bind, Option.bind_eq_some_iff] at hc
      obtain ⟨q, hq, h1⟩ := hc
      cases h1
      exact ok_mi F s hgf (.inr ho) ht hq e
    · cases hc
  | lookup ty mo ko two =>
    rw [ho] at hc
    simp only [compOp] at hc
    split at hc
    · rename_i kt el ht
      simp only [Option.bind_eq_bind, Option.bind_eq_some_iff] at hc
      obtain ⟨z, hz, q, hq, h1⟩ := hc
      cases h1
      exact ok_ml F s ho ht hz hq e
    · cases hc
  | _ => rw [ho] at hc; cases hc
end Go.Rn
