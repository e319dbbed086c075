/-
  One text of a symbolic evaluator over the model, shown sound once for every program: no statement is claimed here.
-/
import Derived.Test.YtendogjdmabknaaRnR
namespace Go.Rn
variable {ρ : Nat → Int} {m m' : Mp} {P : Program}
variable {g fl n n' nt lim : Nat} {h h' : HT} {t : FT} {a : Act} {o : Oper} {w : World} {v : RV} {ys : Ys} {cl : Cl'} {os : Array Oper}
theorem ClOk.ab (hcl : ClOk P ρ g cl) : ClAb g cl := fun f c fl h n v h' n' e h1 h2 => (hcl f c fl h n v h' n' e h1 h2).1
theorem eqB_ok {a b : Bool} : eqB a b = true ↔ a = b := by cases a <;> cases b <;> decide
theorem put_defers (a : Act) (d : Option Tmp) (u : Value) : (a.put d u).defers = a.defers := by cases d <;> rfl
/-- the guard -/
theorem want_y (F : Fr P ρ m nt t a.tmps) {q : G} (hg : compG os nt o.guard = some q) (e : want t q = .y) : Region.wanted o (yielded os a.tmps) = true := by
  unfold Region.wanted
  cases hx : o.guard with
  | none => rfl
  | some jw =>
    obtain ⟨j, b⟩ := jw
    rw [hx] at hg
    simp only [compG] at hg
    cases hd : (os[j]?).bind (·.dst) with
    | none => rw [hd] at hg; cases hg
    | some u =>
      rw [hd] at hg
      simp only at hg
      split at hg
      · rename_i hu
        cases hg
        have e2 : (match tg t (pa 20 (u + 1)) with | .b x => bf (eqB x b) W3.y .n | .ud => .n | _ => .u) = .y := e
        rw [tg_pa (Nat.lt_trans hu F.small)] at e2
        split at e2
        · rename_i x hx2
          rcases bf_or e2 with ⟨h1, _⟩ | ⟨_, h1⟩
          · have := F.slot u (by rw [hx2]; simp)
            rw [hx2] at this
            have hv : a.tmps.getD u undef = .bool x := this
            have hxb := eqB_ok.1 h1
            subst hxb
            have hq : a.tmps[u]? = some (.bool x) := by
              rw [Array.getD_eq_getD_getElem?] at hv
              cases hq : a.tmps[u]? with
              | none => rw [hq] at hv; cases hv
              | some y => rw [hq] at hv; simp at hv; rw [hv]
            simp [yielded, hd, hq]
          · cases h1
        · cases e2
        · cases e2
      · cases hg
theorem want_n (F : Fr P ρ m nt t a.tmps) {q : G} (hg : compG os nt o.guard = some q) (e : want t q = .n) : Region.wanted o (yielded os a.tmps) = false := by
  unfold Region.wanted
  cases hx : o.guard with
  | none => rw [hx] at hg; cases hg; cases e
  | some jw =>
    obtain ⟨j, b⟩ := jw
    rw [hx] at hg
    simp only [compG] at hg
    cases hd : (os[j]?).bind (·.dst) with
    | none => rw [hd] at hg; cases hg
    | some u =>
      rw [hd] at hg
      simp only at hg
      split at hg
      · rename_i hu
        cases hg
        have e2 : (match tg t (pa 20 (u + 1)) with | .b x => bf (eqB x b) W3.y .n | .ud => .n | _ => .u) = .n := e
        rw [tg_pa (Nat.lt_trans hu F.small)] at e2
        split at e2
        · rename_i x hx2
          have := F.slot u (by rw [hx2]; simp)
          rw [hx2] at this
          have hv : a.tmps.getD u undef = .bool x := this
          have hq : a.tmps[u]? = some (.bool x) := by
            rw [Array.getD_eq_getD_getElem?] at hv
            cases hq : a.tmps[u]? with
            | none => rw [hq] at hv; cases hv
            | some y => rw [hq] at hv; simp at hv; rw [hv]
          rcases bf_or e2 with ⟨_, h1⟩ | ⟨h1, _⟩
          · cases h1
          · have hne : x ≠ b := fun q => by rw [eqB_ok.2 q] at h1; cases h1
            simp [yielded, hd, hq, hne]
        · rename_i hx2
          have := F.slot u (by rw [hx2]; simp)
          rw [hx2] at this
          have hv : a.tmps.getD u undef = undef := this
          have hq : ∀ x, a.tmps[u]? ≠ some (.bool x) := fun x hq => by
            rw [Array.getD_eq_getD_getElem?, hq] at hv; cases hv
          have hy : yielded os a.tmps j = none := by
            simp only [yielded, hd, Option.bind_some]
          simp [hy]
        · cases e2
      · cases hg
/-- how a piece ends -/
def brIs (r : BR) (e : Exit) (t : FT) (h : HT) (n : Nat) : Prop := (r = .nx t h n ∧ e = .normal) ∨ (∃ id, r = .ex id t h n ∧ e = .exit id) ∨ (r = .rt t h n ∧ e = .ret)
theorem brIs_nx {t t' : FT} {e : Exit} : brIs (.nx t h n) e t' h' n' ↔ e = .normal ∧ t' = t ∧ h' = h ∧ n' = n := by
  unfold brIs
  constructor
  · rintro (⟨q, rfl⟩ | ⟨id, q, _⟩ | ⟨q, _⟩) <;> cases q
    exact ⟨rfl, rfl, rfl, rfl⟩
  · rintro ⟨rfl, rfl, rfl, rfl⟩; exact .inl ⟨rfl, rfl⟩
theorem brIs_ex {t t' : FT} {e : Exit} {id : Nat} : brIs (.ex id t h n) e t' h' n' ↔ e = .exit id ∧ t' = t ∧ h' = h ∧ n' = n := by
  unfold brIs
  constructor
  · rintro (⟨q, rfl⟩ | ⟨id, q, rfl⟩ | ⟨q, _⟩) <;> cases q
    exact ⟨rfl, rfl, rfl, rfl⟩
  · rintro ⟨rfl, rfl, rfl, rfl⟩; exact .inr (.inl ⟨_, rfl, rfl⟩)
theorem brIs_rt {t t' : FT} {e : Exit} : brIs (.rt t h n) e t' h' n' ↔ e = .ret ∧ t' = t ∧ h' = h ∧ n' = n := by
  unfold brIs
  constructor
  · rintro (⟨q, rfl⟩ | ⟨id, q, _⟩ | ⟨q, rfl⟩) <;> cases q
    exact ⟨rfl, rfl, rfl, rfl⟩
  · rintro ⟨rfl, rfl, rfl, rfl⟩; exact .inr (.inr ⟨rfl, rfl⟩)
theorem brIs_bad {t' : FT} {e : Exit} {l : List Nat} : ¬ brIs (.bad l) e t' h' n' := by
  rintro (⟨q, _⟩ | ⟨id, q, _⟩ | ⟨q, _⟩) <;> cases q
/-- what an activation will yet do: nothing but take over the calls of loops that have deferred none; if it is a round, its loop's record lies -/
def Marks (r : Option Nat) (fl base : Nat) (ds : List Deferred) (h : HT) (m : Mp) (w : World) : Prop := base ≤ w.heap.size ∧ (∀ d ∈ ds, ∃ D, base ≤ D ∧ d = { target := .collected D, args := #[] } ∧ w.heap[D]? = some (.deferred (some [])) ∧ ∀ b c z O Z, fl ≤ b → hg h b = .bk c z → m b ≠ some (D, O, Z)) ∧
  (∀ l, r = some l → ∃ rec, w.heap[l]? = some (.loop rec)) ∧ ds.Nodup
theorem Marks.nil {fl : Nat} {h : HT} {m : Mp} {w : World} : Marks none fl w.heap.size [] h m w := ⟨Nat.le_refl _, fun _ h => (by cases h), fun _ h => (by cases h), .nil⟩
theorem Marks.next {r : Option Nat} {base : Nat} {ds : List Deferred} {h2 : HT} {n2 : Nat} {m2 : Mp} {w2 : World} (k : Marks r fl base ds h m w) (T : Tr P ρ g fl h n m w h2 n2 m2 w2) : Marks r fl base ds h2 m2 w2 := ⟨Nat.le_trans k.1 T.keep.size, fun d hd => by
  obtain ⟨D, h0, h1, h3, h4⟩ := k.2.1 d hd
  have hlt := (Array.getElem?_eq_some_iff.1 h3).1
  refine ⟨D, h0, h1, (T.keep.block D hlt fun b c z O Z e1 e2 => h4 b c z O Z e1 e2).trans h3, fun b c z O Z e1 e2 e3 => ?_⟩
  rcases T.orig b c z D O Z e1 e2 e3 with q | ⟨b0, c0, z0, O0, Z0, q1, q2, q3⟩
  · omega
  · exact h4 b0 c0 z0 O0 Z0 q1 q2 q3, fun l hl => (let ⟨r, h⟩ := k.2.2.1 l hl; T.keep.loops l r h), k.2.2.2⟩
/-- the runner's word on a piece of code is the model's -/
def BdOk (r : Option Nat) (P : Program) (ρ : Nat → Int) (g fl nt : Nat) (F : Bd) (W : (Exit → Act → World → Prop) → Act → World → Prop) : Prop := ∀ t h n e t' h' n', brIs (F t h n) e t' h' n' → fl ≤ n →
  Ab fl h n h' n' ∧ ∀ (a : Act) (m : Mp) (w : World), Fr P ρ m nt t a.tmps → Sim P ρ m g h w → Fresh n n' m → ∀ base, Marks r fl base a.defers h m w → ∀ Q : Exit → Act → World → Prop,
    (∀ a' w' m', Marks r fl base a'.defers h' m' w' → Fr P ρ m' nt t' a'.tmps → Tr P ρ g fl h n m w h' n' m' w' → Q e a' w') → W Q a w
theorem Tr.le {h2 : HT} {m2 : Mp} {w2 : World} {n2 : Nat} (T : Tr P ρ g fl h n m w h2 n2 m2 w2) (f : Fresh n n2 m) : Le m m2 := T.ext.le f
theorem Fresh.left {n1 n2 : Nat} (f : Fresh n n2 m) (l : n1 ≤ n2) : Fresh n n1 m := fun b h1 h2 => f b h1 (Nat.lt_of_lt_of_le h2 l)
theorem Fresh.right {n1 n2 : Nat} (f : Fresh n n2 m) (x : Ext n n1 m m') (l : n ≤ n1) : Fresh n1 n2 m' := fun b h1 h2 => by rw [x b (.inr h1)]; exact f b (Nat.le_trans l h1) h2
theorem ops_ok {r : Option Nat} (hy : YsOk ρ ys) (hcl : ClOk P ρ g cl) (hgf : g ≤ fl) : ∀ (l : List Oper) (k : Nat), (∀ i o, l[i]? = some o → os[k + i]? = some o) →
    BdOk r P ρ g fl nt (ops ys cl fl (l.map fun o => compQ P nt os o .nm)) (fun Q a w => wpOpsIn (WF r) 0 P os Q (List.range' k l.length) a w)
  | [], k, _, t, h, n, e, t', h', n', hr, hf => by
    obtain ⟨rfl, rfl, rfl, rfl⟩ := brIs_nx.1 (show brIs (.nx t h n) e t' h' n' from hr)
    exact ⟨Ab.refl _ _ _, fun a m w F s _ base mk Q hQ => hQ a w m mk F (Tr.refl s)⟩
  | o :: l, k, hl, t, h, n, e, t', h', n', hr, hf => by
    have ih := ops_ok (r := r) hy hcl hgf l (k + 1) (fun i o' hi => by have := hl (i + 1) o' (by simpa using hi); rw [show k + 1 + i = k + (i + 1) by omega]; exact this)
    have ho : os[k]? = some o := by simpa using hl 0 o (by simp)
    have hr1 : brIs (opsQ (compQ P nt os o .nm) ys cl fl (ops ys cl fl (l.map fun o => compQ P nt os o .nm)) t h n) e t' h' n' := hr
    unfold compQ at hr1
    split at hr1
    case h_2 =>
      have : brIs (opsOk .no t (step badP ys cl fl 1152921504606846976 t h n) (ops ys cl fl (l.map fun o => compQ P nt os o .nm))) e t' h' n' := hr1
      cases hb : step badP ys cl fl 1152921504606846976 t h n with
      | ok a b c => exact absurd hb (fun q => step_bad q)
      | bad l => rw [hb] at this; exact absurd this brIs_bad
    case h_1 d q hd hgq =>
      have hr2 : brIs (opsW ys cl fl d ((compOp P nt o.op).getD badP) (ops ys cl fl (l.map fun o => compQ P nt os o .nm)) t h n (want t q)) e t' h' n' := hr1
      cases hw : want t q with
      | u => rw [hw] at hr2; exact absurd hr2 brIs_bad
      | n =>
        rw [hw] at hr2
        have hr3 : brIs (fT (put t d .ud) fun t => ops ys cl fl (l.map fun o => compQ P nt os o .nm) t h n) e t' h' n' := hr2
        rw [fT_eq] at hr3
        obtain ⟨hab, hk⟩ := ih _ _ _ _ _ _ _ hr3 hf
        refine ⟨hab, fun a m w F s fr base mk Q hQ => ?_⟩
        have hwn := want_n (o := o) (os := os) F hgq hw
        have := hk (a.put o.dst undef) m w (F.putD hd (r := .ud) (v := undef) rfl) s fr base (by rw [put_defers]; exact mk) Q (fun a' w' m' h1 h2 h3 => hQ a' w' m' h1 h2 h3)
        show wpOpsIn (WF r) 0 P os Q (k :: List.range' (k + 1) l.length) a w
        rw [wpOpsIn_cons]
        simp only [wpOpIn, ho, hwn]
        exact ⟨fun _ _ => trivial, this⟩
      | y =>
        rw [hw] at hr2
        have hr3 : brIs (opsOk d t (step ((compOp P nt o.op).getD badP) ys cl fl 1152921504606846976 t h n) (ops ys cl fl (l.map fun o => compQ P nt os o .nm))) e t' h' n' := hr2
        cases hst : step ((compOp P nt o.op).getD badP) ys cl fl 1152921504606846976 t h n with
        | bad l => rw [hst] at hr3; exact absurd hr3 brIs_bad
        | ok v h1 n1 =>
          rw [hst] at hr3
          have hr4 : brIs (fT (put t d v) fun t => ops ys cl fl (l.map fun o => compQ P nt os o .nm) t h1 n1) e t' h' n' := hr3
          rw [fT_eq] at hr4
          cases hc : compOp P nt o.op with
          | none => rw [hc] at hst; exact absurd hst (fun q => step_bad q)
          | some rp =>
            rw [hc] at hst
            have hst2 : step rp ys cl fl 1152921504606846976 t h n = .ok v h1 n1 := hst
            have habn : Ab fl h n h1 n1 := by
              exact step_ab (ClOk.ab hcl) hgf _ _ _ _ _ hst2 hf
            obtain ⟨hab, hk⟩ := ih _ _ _ _ _ _ _ hr4 (Nat.le_trans hf habn.le)
            refine ⟨habn.trans hab, fun a m w F s fr base mk Q hQ => ?_⟩
            have hwy := want_y (o := o) (os := os) F hgq hw
            obtain ⟨_, hop⟩ := step_ok (o := o) hy hcl F s hgf hf hc hst2
            show wpOpsIn (WF r) 0 P os Q (k :: List.range' (k + 1) l.length) a w
            rw [wpOpsIn_cons]
            simp only [wpOpIn, ho, hwy, if_true]
            refine hop (fr.left hab.le) _ Q (fun u w1 m1 T hu => ?_) r
            refine hk (a.put o.dst u) m1 w1 ((F.le (T.le (fr.left hab.le))).putD hd hu) T.sim (fr.right T.ext habn.le) base (by rw [put_defers]; exact mk.next T) Q fun a' w' m' h1 h2 h3 => hQ a' w' m' h1 h2 (T.trans h3 habn.le hab.le)
end Go.Rn
