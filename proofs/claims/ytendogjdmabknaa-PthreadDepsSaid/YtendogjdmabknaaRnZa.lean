/-
  One text of a symbolic evaluator over the model, shown sound once for every program: no statement is claimed here.
-/
import Derived.Test.YtendogjdmabknaaRnZ
namespace Go.Rn
variable {ρ : Nat → Int} {P : Program}
variable {g fl nt : Nat} {ys : Ys} {cl : Cl'}
theorem lt_of_get {α : Type} {l : List α} {i : Nat} {q : α} (h : l[i]? = some q) : i < l.length := by
  rcases Nat.lt_or_ge i l.length with p | p
  · exact p
  · rw [List.getElem?_eq_none p] at h; cases h
theorem ef_cls {en : Nat} {d : D} {gq : G} {k : K3} {o : RP} (h : oneOk en (.q d gq k o) = true) : isEf (.q d gq k o) = true ↔ cls o = .eff := by
  cases hc : cls o <;> simp only [oneOk, hc] at h <;> cases k <;> first | (cases h; done) | simp [isEf]
section
variable {os : Array Oper} {l : List RQ} {V : Nat → FT} {H : Nat → HT} {N : Nat → Nat} {R : Nat → RV} {csF : List CK} {hsF : List HT} {bf : List Nat}
variable (D : Dw P fl nt ys cl os l V H N R csF hsF bf) (hcl : ClAb g cl) (hgf : g ≤ fl) (hf : fl ≤ N 0)
variable {a0 : Act} {m0 : Mp} {w0 : World} {S : Nat → Bool} {j : Nat} {Hc : HT} {m : Mp} {a : Act} {w : World}
variable (I : Inv P ρ g fl nt os l V H N R a0 m0 w0 S j Hc m a w)
include D I
/-- an operation that turns memory comes up in its turn -/
theorem Inv.turnE {i : Nat} {q : RQ} (hq : l[i]? = some q) (he : isEf q = true) (hi0 : S i = false) (hup : Up os.toList S i) : effs l i = j := by
  have hi := lt_of_get hq
  rcases Nat.lt_trichotomy (effs l i) j with p | p | p
  · have := (I.ej i q hq he).2 p; rw [hi0] at this; cases this
  · exact p
  · obtain ⟨e, qe, h1, h2, h3, h4⟩ := effs_ex (l := l) (j := j) i (by omega) p
    cases hSe : S e with
    | true => have := (I.ej e qe h2 h3).1 hSe; omega
    | false =>
      have h5 := D.pair I.shut h1 hup hSe h2 hq
      cases qe with
      | q d gq k o => cases q with
        | q d' gq' k' o' =>
          have c1 := (ef_cls (D.one e h2)).1 h3
          have c2 := (ef_cls (D.one i hq)).1 he
          simp [pairRest, itOf, c1, c2] at h5
/-- what made what lies there in the text's order has been done: of an operation that turns memory, or loads what is new -/
theorem Inv.allocs {i : Nat} {d : Go.Rn.D} {gq : G} {kd : K3} {o : RP} (hq : l[i]? = some (.q d gq kd o)) (hc : cls o = .eff ∨ (cls o = .load ∧ kd = .nm)) (hup : Up os.toList S i) :
    ∀ k' q, k' < i → l[k']? = some q → isEf q = false → N k' < N (k' + 1) → S k' = true := by
  intro k' q hk hk' hek hN
  cases hS : S k' with
  | true => rfl
  | false =>
    have h5 := D.pair I.shut hk hup hS hk' hq
    cases q with
    | q d' gq' k o' =>
      have hcl' : cls o' = .alloc := by
        have h1 := D.one k' hk'
        rcases D.turn k' hk' with ⟨_, _, _, h2⟩ | ⟨_, h2⟩
        · omega
        · cases hc' : cls o' with
          | alloc => rfl
          | eff => rw [(ef_cls h1).2 hc'] at hek; cases hek
          | pure =>
            rcases pure_run (ys := ys) (cl := cl) (fl := fl) (lim := limOf k (N 0)) (t := V k') hc' with ⟨v, h3⟩ | h3
            · rw [h3] at h2; simp only [SR.ok.injEq] at h2; have := h2.2.2; omega
            · obtain ⟨b, h3⟩ := h3 (H k') (N k'); rw [h3] at h2; cases h2
          | load =>
            cases o' <;> first | (cases hc'; done) | skip
            obtain ⟨_, e2, _⟩ := step_load h2
            omega
      rcases hc with hc | ⟨hc, rfl⟩
      · simp [pairRest, itOf, hcl', hc] at h5
      · simp [pairRest, itOf, hcl', hc] at h5
/-- a load, whatever has come up, sees what it sees in the text's order -/
theorem Inv.load {i : Nat} {d : Go.Rn.D} {gq : G} {kd : K3} {gg : Bool} {sz : Nat} {x : RO} (hq : l[i]? = some (.q d gq kd (.ld gg sz x))) (hi0 : S i = false) (hup : Up os.toList S i) (hw : want (V i) gq = .y) (hmono : ∀ k, k ≤ l.length → N 0 ≤ N k) :
    ∃ b off c z, ev (V i) x = .p b off ∧ b < limOf kd (N 0) ∧ hg Hc b = .bk c z ∧ rdV gg sz c off = R i ∧ R i ≠ .un ∧ z ≠ MAPZ ∧ H (i + 1) = H i ∧ N (i + 1) = N i := by
  have hi := lt_of_get hq
  have hst : step (.ld gg sz x) ys cl fl (limOf kd (N 0)) (V i) (H i) (N i) = .ok (R i) (H (i + 1)) (N (i + 1)) ∧ ∀ p q, kd = .ck p q → ∃ gg' s x' b off, RP.ld gg sz x = .ld gg' s x' ∧ ev (V i) x' = .p b off ∧ b < N 0 ∧ CK.k p q b off gg' s (R i) ∈ csF := by
    rcases D.run.turn i d gq kd _ hq with ⟨h1, _⟩ | ⟨_, h1, h2⟩
    · rw [hw] at h1; cases h1
    · exact ⟨h1, h2⟩
  obtain ⟨h1, h2⟩ := hst
  obtain ⟨e1, e2, b, off, c, z, e3, e4, e5, e6, e7, e8⟩ := step_load h1
  have hone := D.one i hq
  -- between which places it may come up
  have pq : ∀ p q, (itOf i (bf.getD i 0) (effs l i) (.q d gq kd (.ld gg sz x))).p = p → (itOf i (bf.getD i 0) (effs l i) (.q d gq kd (.ld gg sz x))).q = q → p ≤ effs l i → effs l i ≤ q → p ≤ j ∧ j ≤ q := by
    intro p q hp hq' hpE hqE
    constructor
    · rcases Nat.lt_or_ge j p with r | r
      · obtain ⟨e, qe, a1, a2, a3, a4⟩ := effs_ex (l := l) (j := j) i (by omega) (by omega)
        cases hSe : S e with
        | true => have := (I.ej e qe a2 a3).1 hSe; omega
        | false =>
          have h5 := D.pair I.shut a1 hup hSe a2 hq
          have c1 : (itOf e (bf.getD e 0) (effs l e) qe).c = .eff := by cases qe; exact (ef_cls (D.one e a2)).1 a3
          have c2 : (itOf i (bf.getD i 0) (effs l i) (.q d gq kd (.ld gg sz x))).c = .load := rfl
          have c3 : (itOf e (bf.getD e 0) (effs l e) qe).en = effs l e := by cases qe; rfl
          unfold pairRest at h5
          rw [c1, c2, hp, c3] at h5
          simp only [Bool.and_eq_true] at h5
          have := ble_ok h5.2
          omega
      · exact r
    · rcases Nat.lt_or_ge q j with r | r
      · obtain ⟨e, qe, a1, a2, a3, a4⟩ := effs_ex (l := l) (j := q) l.length (Nat.le_refl _) (Nat.lt_of_lt_of_le r I.je)
        have hSe := (I.ej e qe a2 a3).2 (by omega)
        have hie : i < e := by
          rcases Nat.lt_trichotomy i e with s | s | s
          · exact s
          · subst s
            rw [hq] at a2; cases a2
            have := (ef_cls hone).1 a3
            cases this
          · have := effs_lt a2 a3 s (by omega); omega
        have h5 := D.pair I.shut hie (I.shut.up hSe) hi0 hq a2
        have c1 : (itOf e (bf.getD e 0) (effs l e) qe).c = .eff := by cases qe; exact (ef_cls (D.one e a2)).1 a3
        have c2 : (itOf i (bf.getD i 0) (effs l i) (.q d gq kd (.ld gg sz x))).c = .load := rfl
        have c3 : (itOf e (bf.getD e 0) (effs l e) qe).en = effs l e := by cases qe; rfl
        unfold pairRest at h5
        rw [c1, c2, hq', c3] at h5
        simp only [Bool.and_eq_true] at h5
        have := ble_ok h5.2
        omega
      · exact r
  have noEf : effs l i = j → ∀ k' q, k' < i → l[k']? = some q → j ≤ effs l k' → isEf q = false := fun hE k' q hk hk' hj => by
    cases hef : isEf q with
    | false => rfl
    | true => have := effs_lt hk' hef hk (by omega); omega
  refine ⟨b, off, ?_⟩
  cases kd with
  | ef => cases hone
  | nm =>
    have hE := pq _ _ rfl rfl (Nat.le_refl _) (Nat.le_refl _)
    have hE2 : effs l i = j := Nat.le_antisymm hE.1 hE.2
    refine ⟨c, z, e3, e4, ?_, e6, e7, e8, e1, e2⟩
    exact I.cov D (by omega) hE2 (fun k' q hk hk' hek _ _ hN => I.allocs D hq (.inr ⟨rfl, rfl⟩) hup k' q hk hk' hek hN) i (Nat.le_refl _) (by omega) c z e5
  | lm =>
    have hE := pq _ _ rfl rfl (Nat.le_refl _) (Nat.le_refl _)
    have hE2 : effs l i = j := Nat.le_antisymm hE.1 hE.2
    refine ⟨c, z, e3, e4, ?_, e6, e7, e8, e1, e2⟩
    have e4' : b < N 0 := e4
    exact I.cov D (by omega) hE2 (fun k' q hk hk' hek _ hb hN => by have := hmono k' (by omega); omega) i (Nat.le_refl _) (by omega) c z e5
  | ck p q =>
    have hpq : p ≤ effs l i ∧ effs l i ≤ q := by
      have : (Nat.ble p (effs l i) && Nat.ble (effs l i) q) = true := hone
      rw [Bool.and_eq_true] at this
      exact ⟨ble_ok this.1, ble_ok this.2⟩
    obtain ⟨hp, hq'⟩ := pq p q rfl rfl hpq.1 hpq.2
    obtain ⟨gg', s, x', b', off', hld, q1, q2, q3⟩ := h2 p q rfl
    cases hld
    rw [e3] at q1
    cases q1
    obtain ⟨xp, hxp, pre, suf, hsf, hlen⟩ : ∃ xp, ((xp = 0 ∧ j = 0) ∨ ∃ e qe, xp = e + 1 ∧ l[e]? = some qe ∧ isEf qe = true ∧ effs l e + 1 = j) ∧ ∃ pre suf, hsF = pre ++ H xp :: suf ∧ suf.length = j := by
      rcases Nat.eq_zero_or_pos j with r | r
      · obtain ⟨pre, hpre⟩ := D.hs0
        exact ⟨0, .inl ⟨rfl, r⟩, pre, [], hpre, r.symm⟩
      · obtain ⟨e, qe, a1, a2, a3, a4⟩ := effs_ex (l := l) (j := j - 1) l.length (Nat.le_refl _) (by have := I.je; omega)
        obtain ⟨pre, suf, a5, a6⟩ := D.hsE e qe a2 a3
        exact ⟨e + 1, .inr ⟨e, qe, rfl, a2, a3, by omega⟩, pre, suf, a5, by omega⟩
    have hck := ckAll_ok (ckOver_ok D.ck pre (H xp) suf hsf) _ q3
    rw [hlen] at hck
    have hck2 : Go.Rn.bf (Nat.ble p j) (Go.Rn.bf (Nat.ble j q) (gK false (hg (H xp) b) fun cs _ => eqV (rdV gg sz cs off) (R i)) true) true = true := hck
    rw [show Nat.ble p j = true from Nat.ble_eq_true_of_le hp, show Nat.ble j q = true from Nat.ble_eq_true_of_le hq'] at hck2
    have hck3 : gK false (hg (H xp) b) (fun cs _ => eqV (rdV gg sz cs off) (R i)) = true := hck2
    obtain ⟨c', z', hb', hv⟩ := gK_ok hck3 (by simp)
    exact ⟨c', z', e3, e4, I.c1 xp hxp b c' z' hb', eqV_ok _ _ hv, e7, gK_mz hck3 (by simp) hb', e1, e2⟩
end
section
variable {os : Array Oper} {l : List RQ} {V : Nat → FT} {H : Nat → HT} {N : Nat → Nat} {R : Nat → RV} {csF : List CK} {hsF : List HT} {bf : List Nat}
variable (D : Dw P fl nt ys cl os l V H N R csF hsF bf) (hy : YsOk ρ ys) (hcl : ClOk P ρ g cl) (hgf : g ≤ fl) (hf : fl ≤ N 0)
variable {a0 : Act} {m0 : Mp} {w0 : World} (s0 : Sim P ρ m0 g (H 0) w0) (f0 : Fresh (N 0) (N l.length) m0)
include D hy hcl hgf hf s0 f0
/-- the next one, whichever comes up -/
theorem Dw.next {S : Nat → Bool} {j : Nat} {Hc : HT} {m : Mp} {a : Act} {w : World} (I : Inv P ρ g fl nt os l V H N R a0 m0 w0 S j Hc m a w) {i : Nat} {o : Oper} (ho : os[i]? = some o) (hi0 : S i = false) (hup : Up os.toList S i)
    {r : Option Nat} {K : Act → World → Prop} {Q : Exit → Act → World → Prop} (hK : ∀ j' Hc' m' a' w', Inv P ρ g fl nt os l V H N R a0 m0 w0 (add1 S i) j' Hc' m' a' w' → K a' w') : wpOpIn (WF r) 0 P os Q i K a w := by
  have hca := hcl.ab
  obtain ⟨kd, hq⟩ := D.get i o ho
  have hi := lt_of_get hq
  have hmono : ∀ k, k ≤ l.length → N 0 ≤ N k := fun k hk => D.mono hca hgf hf (i := 0) k (Nat.zero_le _) hk
  unfold compQ at hq
  split at hq
  case h_2 =>
    rcases D.turn i hq with ⟨h1, _⟩ | ⟨_, h1⟩
    · cases h1
    · exact (step_bad h1).elim
  case h_1 d gq hd hgq =>
    have hdO : dOf l i = d := by unfold dOf; rw [hq]
    have hrO : rOf l i = rdm ((compOp P nt o.op).getD badP) ||| gm gq := by unfold rOf; rw [hq]
    have hd' : compDst nt o.dst = some (dOf l i) := by rw [hdO]; exact hd
    -- what it reads is what it reads in the text's order
    have ag : Ag (ts l (V 0) R S l.length) (V i) (rOf l i) := fun p hp => by
      unfold tg
      rw [getP_eq, getP_eq]
      have := D.ts_read I.shut hi hup hi0 hp l.length (Nat.le_refl _)
      rwa [show min l.length i = i by omega] at this
    rw [hrO] at ag
    have cov : ∀ {k'}, effs l i = j → (∀ k' q, k' < i → l[k']? = some q → isEf q = false → N k' < N (k' + 1) → S k' = true) → k' = i → ∀ b c z, hg (H k') b = .bk c z → hg Hc b = .bk c z := by
      rintro k' hE hal rfl b c z hb
      exact I.cov D (by omega) hE (fun k2 q h1 h2 h3 _ _ h4 => hal k2 q h1 h2 h3 h4) _ (Nat.le_refl _) (by omega) c z hb
    have hEf : isEf (.q d gq kd ((compOp P nt o.op).getD badP)) = true ↔ cls ((compOp P nt o.op).getD badP) = .eff := ef_cls (D.one i hq)
    have dead : ∀ b c z, N i ≤ b → b < N (i + 1) → hg Hc b ≠ .bk c z := fun b c z h1 h2 hb => by
      obtain ⟨B', O, Z, q1, _⟩ := I.tr.sim.cell b c z hb
      rw [I.fresh i hi hi0 b h1 h2] at q1; cases q1
    unfold wpOpIn
    rw [ho]
    rcases D.turn i hq with ⟨h1, h2, h3, h4⟩ | ⟨h1, h2⟩
    · -- not wanted
      have hw := want_n (o := o) (os := os) I.fr hgq (by rw [want_congr ag.r]; exact h1)
      simp only [hw]
      refine ⟨fun _ _ => trivial, ?_⟩
      show K (a.put o.dst undef) w
      cases hef : isEf (.q d gq kd ((compOp P nt o.op).getD badP)) with
      | false => exact hK _ _ _ _ _ (I.quiet D hca hgf hf hq hef hi0 hup (by rw [h4]; exact Tr.refl I.tr.sim) hd' (by rw [h2]; rfl) (fun _ _ _ h => h) (fun h => by omega))
      | true =>
        have hE := I.turnE D hq hef hi0 hup
        have sub := cov hE (I.allocs D hq (.inl (hEf.1 hef)) hup) rfl
        refine hK _ _ _ _ _ (I.eff D hca hgf hf hq hef hi0 hup hE s0 f0 sub (m' := m) (w' := w) (u := undef) ?_ hd' (by rw [h2]; rfl))
        rw [h3, h4]
        exact Tr.refl (I.tr.sim.sub sub)
    · have hw := want_y (o := o) (os := os) I.fr hgq (by rw [want_congr ag.r]; exact h1)
      simp only [hw, if_true]
      cases hc : compOp P nt o.op with
      | none => rw [hc] at h2; exact (step_bad h2).elim
      | some rp =>
        rw [hc] at h2 hEf hq ag
        have hEf : isEf (.q d gq kd rp) = true ↔ cls rp = .eff := hEf
        have h2 : step rp ys cl fl (limOf kd (N 0)) (V i) (H i) (N i) = .ok (R i) (H (i + 1)) (N (i + 1)) := h2
        have hq : l[i]? = some (.q d gq kd rp) := hq
        have agr : Ag (ts l (V 0) R S l.length) (V i) (rdm rp) := ag.l
        have hfi : fl ≤ N i := Nat.le_trans hf (hmono i (by omega))
        cases hef : isEf (.q d gq kd rp) with
        | true =>
          have hE := I.turnE D hq hef hi0 hup
          have sub := cov hE (I.allocs D hq (.inl (hEf.1 hef)) hup) rfl
          have h5 : step rp ys cl fl (limOf kd (N 0)) (ts l (V 0) R S l.length) (H i) (N i) = .ok (R i) (H (i + 1)) (N (i + 1)) := by rw [step_congr agr]; exact h2
          obtain ⟨_, hop⟩ := step_ok (o := o) hy hcl I.fr (I.tr.sim.sub sub) hgf hfi hc h5
          refine hop (I.fresh i hi hi0) K Q (fun u w' m' B hu => ?_) r
          exact hK _ _ _ _ _ (I.eff D hca hgf hf hq hef hi0 hup hE s0 f0 sub B hd' hu)
        | false =>
          -- it says the same over the heap at hand
          obtain ⟨Hc', h5, sup, hnew⟩ : ∃ Hc', step rp ys cl fl (limOf kd (N 0)) (ts l (V 0) R S l.length) Hc (N i) = .ok (R i) Hc' (N (i + 1)) ∧ (∀ b c z, hg Hc b = .bk c z → hg Hc' b = .bk c z) ∧ (N i < N (i + 1) → ∀ c z, hg (H (i + 1)) (N i) = .bk c z → hg Hc' (N i) = .bk c z) := by
            cases hcs : cls rp with
            | eff => rw [hEf.2 hcs] at hef; cases hef
            | pure =>
              rcases pure_run (ys := ys) (cl := cl) (fl := fl) (lim := limOf kd (N 0)) (t := V i) hcs with ⟨v, h6⟩ | h6
              · have h7 := h2
                rw [h6] at h7
                simp only [SR.ok.injEq] at h7
                refine ⟨Hc, ?_, fun _ _ _ h => h, fun h => by have := h7.2.2; omega⟩
                rw [step_congr agr, h6, h7.1, h7.2.2]
              · obtain ⟨b, h6⟩ := h6 (H i) (N i); rw [h6] at h2; cases h2
            | load =>
              cases rp <;> first | (cases hcs; done) | skip
              case ld gg sz x =>
                obtain ⟨b, off, c, z, q1, q2, q3, q4, q5, q8, q6, q7⟩ := I.load D hq hi0 hup h1 hmono
                refine ⟨Hc, ?_, fun _ _ _ h => h, fun h => by omega⟩
                rw [step_congr agr, q7]
                exact load_step q1 q2 q3 q4 q5 q8
            | alloc =>
              rcases alloc_run (ys := ys) (cl := cl) (fl := fl) (lim := limOf kd (N 0)) (t := V i) hcs with ⟨f, x, h6⟩ | h6
              · have h7 := h2
                rw [h6] at h7
                simp only [SR.ok.injEq] at h7
                have hNN := D.mono hca hgf hf (i := i + 1) l.length hi (Nat.le_refl _)
                have hlt : N i < 8388608 := by have := D.small; have := h7.2.2; omega
                refine ⟨hst Hc x (N i), ?_, fun b c z hb => ?_, fun _ c z hb => ?_⟩
                · rw [step_congr agr, h6, h7.1, h7.2.2]
                · rcases hg_hst Hc x (N i) b with ⟨p, _⟩ | ⟨_, p⟩
                  · subst p; exact absurd hb (dead _ c z (Nat.le_refl _) (by have := h7.2.2; omega))
                  · rw [p]; exact hb
                · rw [hg_hst_in _ _ _ hlt]
                  rw [← h7.2.1, hg_hst_in _ _ _ hlt] at hb
                  exact hb
              · obtain ⟨b, h6⟩ := h6 (H i) (N i); rw [h6] at h2; cases h2
          obtain ⟨_, hop⟩ := step_ok (o := o) hy hcl I.fr I.tr.sim hgf hfi hc h5
          refine hop (I.fresh i hi hi0) K Q (fun u w' m' B hu => ?_) r
          exact hK _ _ _ _ _ (I.quiet D hca hgf hf hq hef hi0 hup B hd' hu sup hnew)
end
end Go.Rn
