/-
  One text of a symbolic evaluator over the model, shown sound once for every program: no statement is claimed here.
-/
import Derived.Test.YtendogjdmabknaaGreatDoorRnP
import Derived.MapKept
namespace Go.Rn
variable {ρ : Nat → Int} {m m' : Mp} {P : Program}
variable {g fl n n' nt lim : Nat} {h h' : HT} {t : FT} {a : Act} {o : Oper} {w : World} {v : RV} {ys : Ys} {cl : Cl'}
section
variable {α : Type} {d x : α}
theorem gM_ok {v : RV} {k : Nat → α} (h : gM d v k = x) (hd : d ≠ x) : ∃ b, v = .mp b ∧ k b = x := by
  cases v <;> first | exact absurd h hd | exact ⟨_, rfl, h⟩
theorem gMK_ok {v : RB} {k : CT → α} (h : gMK d v k = x) (hd : d ≠ x) : ∃ c, v = .bk c MAPZ ∧ k c = x := by
  cases v with
  | no => exact absurd h hd
  | bk c z =>
    have h1 : bf (Nat.beq z MAPZ) (k c) d = x := h
    cases hz : Nat.beq z MAPZ with
    | true =>
      rw [hz] at h1
      have := Nat.eq_of_beq_eq_true hz
      subst this
      exact ⟨c, rfl, h1⟩
    | false => rw [hz] at h1; exact absurd h1 hd
end
theorem kOf_b {r : RV} (hk : kOf r = 1) : ∃ b, r = .b b := by
  cases r <;> first | exact ⟨_, rfl⟩ | cases hk; done | (rename_i j z; exfalso; revert hk; cases j <;> intro hk <;> cases hk)
theorem kOf_s {r : RV} (hk : kOf r = 2) : ∃ l, r = .s l := by
  cases r <;> first | exact ⟨_, rfl⟩ | cases hk; done | (rename_i j z; exfalso; revert hk; cases j <;> intro hk <;> cases hk)
theorem kOf_i {r : RV} {k : IntKind} (hk : kOf r = kNum k) : ∃ z, r = .i k z := by
  cases r <;> first | (exfalso; revert hk; cases k <;> intro hk <;> cases hk; done) | (rename_i j z; revert hk; cases k <;> cases j <;> intro hk <;> first | exact ⟨_, rfl⟩ | cases hk)
/-- a key and what it stands for -/
theorem kOf_key {d : TypeDesc} {q : Nat} {r : RV} {u : Value} (hq : keyOf d = some q) (hk : kOf r = q) (hd : den ρ m r u) : MapKept.IsKey d u := by
  cases d <;> simp only [keyOf, Option.some.injEq, reduceCtorEq] at hq
  · subst hq; obtain ⟨b, rfl⟩ := kOf_b hk; cases hd; trivial
  · subst hq; obtain ⟨z, rfl⟩ := kOf_i hk; cases hd; rfl
  · subst hq; obtain ⟨l, rfl⟩ := kOf_s hk; obtain ⟨rfl, _⟩ := hd; trivial
theorem bytes_inj {a b : List Nat} (ha : ∀ x ∈ a, x < 256) (hb : ∀ x ∈ b, x < 256) (e : a.map UInt8.ofNat = b.map UInt8.ofNat) : a = b := by
  induction a generalizing b with
  | nil => cases b with
    | nil => rfl
    | cons y r => cases e
  | cons x l ih => cases b with
    | nil => cases e
    | cons y r =>
      simp only [List.map_cons, List.cons.injEq] at e
      have hx := ha x (.head _)
      have hy := hb y (.head _)
      have h1 : x = y := by
        have := congrArg UInt8.toNat e.1
        simpa [Nat.mod_eq_of_lt hx, Nat.mod_eq_of_lt hy] using this
      rw [h1, ih (fun z hz => ha z (.tail _ hz)) (fun z hz => hb z (.tail _ hz)) e.2]
theorem kEq_ok {d : TypeDesc} {q : Nat} {r r' : RV} {u u' : Value} (hq : keyOf d = some q) (hk : kOf r = q) (hk' : kOf r' = q) (hd : den ρ m r u) (hd' : den ρ m r' u') : kEq r r' = true ↔ u = u' := by
  cases d <;> simp only [keyOf, Option.some.injEq, reduceCtorEq] at hq
  · subst hq
    obtain ⟨b, rfl⟩ := kOf_b hk; obtain ⟨b', rfl⟩ := kOf_b hk'; cases hd; cases hd'
    cases b <;> cases b' <;> simp [kEq, gB, eqB, bf, notB]
  · subst hq
    obtain ⟨z, rfl⟩ := kOf_i hk; obtain ⟨z', rfl⟩ := kOf_i hk'; cases hd; cases hd'
    show eqI z z' = true ↔ _
    rw [eqI_eq]; simp
  · subst hq
    obtain ⟨l, rfl⟩ := kOf_s hk; obtain ⟨l', rfl⟩ := kOf_s hk'; obtain ⟨rfl, h1⟩ := hd; obtain ⟨rfl, h2⟩ := hd'
    show eqL l l' = true ↔ _
    rw [eqL_ok]
    constructor
    · intro h; have : l = l' := by simpa using h
      rw [this]
    · intro h
      have e : l.map UInt8.ofNat = l'.map UInt8.ofNat := by simpa using h
      simp [bytes_inj h1 h2 e]
/-- the search -/
theorem mFind_ok {d : TypeDesc} {q : Nat} {r : RV} {u : Value} {c : CT} {es : List MapEntry} (hq : keyOf d = some q) (hk : kOf r = q) (hd : den ρ m r u)
    (hes : ∀ i e, es[i]? = some e → den ρ m (cg c (1 + 2 * i)) e.key) : ∀ (s i : Nat) (x : Option Nat), i + s = es.length → mFind q c r s i = some x →
    (x = none ∧ Instr.findNow d u (es.drop i) i = some none) ∨ ∃ j e, x = some j ∧ es[j]? = some e ∧ e.key = u ∧ Instr.findNow d u (es.drop i) i = some (some (j, e.val))
  | 0, i, x, hl, h => by
    have h' : some none = some x := h
    cases h'
    rw [List.drop_eq_nil_of_le (by omega)]
    exact .inl ⟨rfl, rfl⟩
  | s + 1, i, x, hl, h => by
    have hlt : i < es.length := by omega
    have he : es[i]? = some es[i] := List.getElem?_eq_getElem hlt
    have h' : bf (Nat.beq (kOf (cg c (1 + 2 * i))) q) (bf (kEq r (cg c (1 + 2 * i))) (some (some i)) (mFind q c r s (i + 1))) none = some x := h
    rw [bf_eq, bf_eq] at h'
    split at h'
    · rename_i h1
      have h1 := Nat.eq_of_beq_eq_true h1
      have hde := hes i _ he
      have hiff := kEq_ok hq hk h1 hd hde
      obtain ⟨b, hb, hbi⟩ := MapKept.sameNow_of_keys (kOf_key hq hk hd) (kOf_key hq h1 hde)
      rw [List.drop_eq_getElem_cons hlt]
      split at h'
      · rename_i h2
        cases h'
        have : u = es[i].key := hiff.1 h2
        have hbt : b = true := hbi.2 this
        subst hbt
        exact .inr ⟨i, _, rfl, he, this.symm, by simp [Instr.findNow, hb]⟩
      · rename_i h2
        have hbf : b = false := by
          cases b with
          | false => rfl
          | true => exact absurd (hiff.2 (hbi.1 rfl)) h2
        subst hbf
        rcases mFind_ok hq hk hd hes s (i + 1) x (by omega) h' with ⟨h3, h4⟩ | ⟨j, e, h3, h4, h5, h6⟩
        · exact .inl ⟨h3, by simp [Instr.findNow, hb, h4]⟩
        · exact .inr ⟨j, e, h3, h4, h5, by simp [Instr.findNow, hb, h6]⟩
    · cases h'
theorem cg_cst_in (c : CT) (x : RV) (k : Nat) (hk : k < 8388608) : cg (cst c x k) k = x := by
  unfold cg cst
  exact get_set_in _ _ _ _ (Nat.succ_le_succ (Nat.zero_le k)) (Nat.lt_trans (Nat.succ_lt_succ hk) (by decide))
theorem cg_cst_ne (c : CT) (x : RV) {k j : Nat} (h : j ≠ k) : cg (cst c x k) j = cg c j := by
  rcases cg_cst c x k j with ⟨h1, _⟩ | ⟨_, h1⟩
  · exact absurd h1 h
  · exact h1
end Go.Rn
namespace Go.Rn
variable {ρ : Nat → Int} {m m' : Mp} {P : Program}
variable {g fl n n' nt lim : Nat} {h h' : HT} {t : FT} {a : Act} {o : Oper} {w : World} {v : RV} {ys : Ys} {cl : Cl'}
/-- a new map -/
theorem Sim.newMap (s : Sim P ρ m g h w) (hn : m n = none) {c : CT} {ob : Obj} (hk : Spec P ρ (upd m n (w.heap.size, 0, 0)) c ob) :
    Sim P ρ (upd m n (w.heap.size, 0, 0)) g (hst h (.bk c MAPZ) n) (w.alloc ob) := by
  have hle : Le m (upd m n (w.heap.size, 0, 0)) := upd_le hn
  have hold : ∀ b c z, b ≠ n → hg (hst h (.bk c z) n) b = hg h b := fun b c z hb => by
    rcases hg_hst h (.bk c z) n b with ⟨h1, _⟩ | ⟨_, h1⟩
    · exact absurd h1 hb
    · exact h1
  refine ⟨fun b c' z' hb => ?_, fun b b' c1 z1 c2 z2 B O Z O' Z' h1 h2 h3 h4 => ?_⟩
  · by_cases e : b = n
    · subst e
      rcases hg_hst h (.bk c MAPZ) b b with ⟨_, h1 | h1⟩ | ⟨h1, _⟩
      · rw [hb] at h1
        cases h1
        exact ⟨_, _, _, upd_self _ _, .inr ⟨rfl, ob, heap_alloc_new _ _, hk⟩⟩
      · rw [hb] at h1; cases h1
      · exact absurd rfl h1
    · rw [hold b c MAPZ e] at hb
      obtain ⟨B, O, Z, h1, h2⟩ := s.cell b c' z' hb
      exact ⟨B, O, Z, hle _ _ h1, h2.move (RowKit.Below.heap_alloc _ _ _ h2.lt) hle⟩
  · have key : ∀ b c1 z1 B O Z, b ≠ n → hg (hst h (.bk c MAPZ) n) b = .bk c1 z1 → upd m n (w.heap.size, 0, 0) b = some (B, O, Z) → hg h b = .bk c1 z1 ∧ m b = some (B, O, Z) ∧ B < w.heap.size := fun b c1 z1 B O Z e h1 h3 => by
      rw [hold b c MAPZ e] at h1
      have h5 : m b = some (B, O, Z) := by
        unfold upd at h3; rwa [if_neg e] at h3
      exact ⟨h1, h5, s.lt h1 h5⟩
    by_cases e : b = n
    · by_cases e' : b' = n
      · omega
      · obtain ⟨_, _, h5⟩ := key b' c2 z2 B O' Z' e' h2 h4
        subst e
        rw [upd_self] at h3
        cases h3
        omega
    · by_cases e' : b' = n
      · obtain ⟨_, _, h5⟩ := key b c1 z1 B O Z e h1 h3
        subst e'
        rw [upd_self] at h4
        cases h4
        omega
      · obtain ⟨g1, g2, _⟩ := key b c1 z1 B O Z e h1 h3
        obtain ⟨g3, g4, _⟩ := key b' c2 z2 B O' Z' e' h2 h4
        exact s.inj b b' c1 z1 c2 z2 B O Z O' Z' g1 g3 g2 g4
theorem Tr.newMap (s : Sim P ρ m g h w) (hn : m n = none) {c : CT} {ob : Obj} (hk : Spec P ρ (upd m n (w.heap.size, 0, 0)) c ob) :
    Tr P ρ g fl h n m w (hst h (.bk c MAPZ) n) (n + 1) (upd m n (w.heap.size, 0, 0)) (w.alloc ob) := by
  refine ⟨s.newMap hn hk, upd_ext _ _, ⟨rfl, rfl, rfl, by simp, fun k hk _ => RowKit.Below.heap_alloc _ _ _ hk, fun k r h => ⟨r, (RowKit.Below.heap_alloc _ _ _ (Array.getElem?_eq_some_iff.1 h).1).trans h⟩⟩, fun b c' z' B O Z h1 h2 h3 => ?_⟩
  by_cases e : b = n
  · subst e
    rw [upd_self] at h3
    cases h3
    exact .inl (Nat.le_refl _)
  · unfold upd at h3
    rw [if_neg e] at h3
    rcases hg_hst h (.bk c MAPZ) n b with ⟨h4, _⟩ | ⟨_, h4⟩
    · exact absurd h4 e
    · rw [h4] at h2
      exact .inr ⟨b, c', z', O, Z, h1, h2, h3⟩
/-- a map turned -/
theorem Tr.setMap {b B O Z : Nat} {c c' : CT} {ob ob' : Obj} (s : Sim P ρ m g h w) (hb : hg h b = .bk c MAPZ) (fb : fl ≤ b) (hm : m b = some (B, O, Z)) (hh : w.heap[B]? = some ob) (hK : Spec P ρ m c' ob') (hl : ∀ r, ob = .loop r → ∃ r', ob' = .loop r') :
    Tr P ρ g fl h n m w (hst h (.bk c' MAPZ) b) n m { w with heap := w.heap.setIfInBounds B ob' } := by
  have hset := MapKept.heap_set (o' := ob') hh
  have hold : ∀ b', b' ≠ b → hg (hst h (.bk c' MAPZ) b) b' = hg h b' := fun b' hb' => by
    rcases hg_hst h (.bk c' MAPZ) b b' with ⟨h1, _⟩ | ⟨_, h1⟩
    · exact absurd h1 hb'
    · exact h1
  refine ⟨⟨fun b' c1 z1 e => ?_, fun b1 b2 c1 z1 c2 z2 B1 O1 Z1 O2 Z2 e1 e2 e3 e4 => ?_⟩, Ext.refl _ _ _, ⟨rfl, rfl, rfl, by simp, fun k _ hn => hset.2 k (fun eB => hn b c MAPZ O Z fb hb (by rw [eB]; exact hm)), fun k r h => (by
    by_cases e : k = B
    · subst e
      obtain ⟨r', hr'⟩ := hl r (Option.some.inj (hh.symm.trans h))
      exact ⟨r', by rw [hset.1, hr']⟩
    · exact ⟨r, (hset.2 k e).trans h⟩)⟩, fun b' c1 z1 B1 O1 Z1 e1 e2 e3 => ?_⟩
  · by_cases eb : b' = b
    · subst eb
      rcases hg_hst h (.bk c' MAPZ) b' b' with ⟨_, h1 | h1⟩ | ⟨h1, _⟩
      · rw [e] at h1; cases h1
        exact ⟨B, O, Z, hm, .inr ⟨rfl, ob', hset.1, hK⟩⟩
      · rw [e] at h1; cases h1
      · exact absurd rfl h1
    · rw [hold b' eb] at e
      obtain ⟨B', O', Z', q1, q2⟩ := s.cell b' c1 z1 e
      exact ⟨B', O', Z', q1, q2.move (hset.2 B' (fun eB => by
        subst eB
        exact eb (s.inj b' b c1 z1 c MAPZ B' O' Z' O Z e hb q1 hm))) (Le.refl _)⟩
  · have key : ∀ b1 c1 z1, hg (hst h (.bk c' MAPZ) b) b1 = .bk c1 z1 → ∃ c2 z2, hg h b1 = .bk c2 z2 := fun b1 c1 z1 e => by
      by_cases eb : b1 = b
      · exact ⟨c, MAPZ, by rw [eb]; exact hb⟩
      · rw [hold b1 eb] at e; exact ⟨_, _, e⟩
    obtain ⟨c3, z3, q1⟩ := key b1 c1 z1 e1
    obtain ⟨c4, z4, q2⟩ := key b2 c2 z2 e2
    exact s.inj b1 b2 c3 z3 c4 z4 B1 O1 Z1 O2 Z2 q1 q2 e3 e4
  · by_cases eb : b' = b
    · subst eb; exact .inr ⟨b', c, MAPZ, O1, Z1, e1, hb, e3⟩
    · rw [hold b' eb] at e2; exact .inr ⟨b', c1, z1, O1, Z1, e1, e2, e3⟩
theorem Sim.spec {b : Nat} {c : CT} (s : Sim P ρ m g h w) (hb : hg h b = .bk c MAPZ) : ∃ B O Z o, m b = some (B, O, Z) ∧ w.heap[B]? = some o ∧ Spec P ρ m c o := by
  obtain ⟨B, O, Z, h1, h2⟩ := s.cell b c MAPZ hb
  rcases h2 with ⟨h2, _⟩ | ⟨_, o, h2, h3⟩
  · exact absurd rfl h2
  · exact ⟨B, O, Z, o, h1, h2, h3⟩
theorem Sim.map {b : Nat} {c : CT} {q : Nat} (s : Sim P ρ m g h w) (hb : hg h b = .bk c MAPZ) (hsz : mSize c = some q) : ∃ B O Z es ck, m b = some (B, O, Z) ∧ w.heap[B]? = some (.map es ck) ∧ MapK ρ m c es := by
  obtain ⟨B, O, Z, o, h1, h2, h3⟩ := s.spec hb
  cases o with
  | map es ck => exact ⟨B, O, Z, es, ck, h1, h2, h3⟩
  | loop rec =>
    obtain ⟨key, st, _, _, _, _, _, _, _, h4, _⟩ := h3
    unfold mSize at hsz
    rw [h4] at hsz
    cases hsz
  | _ => exact h3.elim
theorem Sim.loop {b k : Nat} {c : CT} {st : RV} (s : Sim P ρ m g h w) (hb : hg h b = .bk c MAPZ) (hc : cg c 0 = .fn k st) : ∃ B O Z rec, m b = some (B, O, Z) ∧ w.heap[B]? = some (.loop rec) ∧ LoopK P ρ m c rec := by
  obtain ⟨B, O, Z, o, h1, h2, h3⟩ := s.spec hb
  cases o with
  | map es ck =>
    have h4 : cg c 0 = .i .i64 (.ofNat es.size) := h3.1
    rw [hc] at h4
    cases h4
  | loop rec => exact ⟨B, O, Z, rec, h1, h2, h3⟩
  | _ => exact h3.elim
theorem mSize_ok {c : CT} {es : Array MapEntry} {q : Nat} (hK : MapK ρ m c es) (e : mSize c = some q) : q = es.size := by
  unfold mSize at e
  rw [hK.1] at e
  have e' : some es.size = some q := e
  cases e'; rfl
/-- 'make' of a map -/
theorem ok_mk (s : Sim P ρ m g h w) (hf : fl ≤ n) {ty kt el : TypeId} {r : Option Operand} (ho : o.op = .makeMap ty r) (ht : P.underlying ty = some (.map kt el)) (hr : r.all keySize = true)
    (e : step .mk ys cl fl lim t h n = .ok v h' n') : Ok1 P ρ g fl o a m w h n v h' n' := by
  have e1 : fT (cst ce (.i .i64 (.ofNat 0)) 0) (fun cs => fT (hst h (.bk cs MAPZ) n) fun h => SR.ok (.mp n) h (Nat.succ n)) = .ok v h' n' := e
  rw [fT_eq, fT_eq] at e1
  cases e1
  refine ⟨Ab.new _ hf, fun hfr K Q hK => ?_⟩
  have hn : m n = none := hfr n (Nat.le_refl _) (Nat.lt_succ_self _)
  have hMK : MapK ρ (upd m n (w.heap.size, 0, 0)) (cst ce (.i .i64 (.ofNat 0)) 0) #[] := ⟨cg_cst_in _ _ 0 (by decide), fun i e he => by simp at he⟩
  refine op_value (w' := w.alloc (.map #[] 0)) (u := .map (some w.heap.size)) ?_ (hK _ _ _ (Tr.newMap (ob := .map #[] 0) s hn hMK) ⟨w.heap.size, 0, 0, upd_self _ _, rfl⟩)
  cases r with
  | none => simp [execOp, ho, Instr.makeMap, newObj]; rfl
  | some x =>
    cases x with
    | const c => cases c <;> first | cases hr; done | (simp [execOp, ho, Instr.makeMap, run_underlying ht, newObj, asInt]; rfl)
    | _ => cases hr
theorem keyOf_ty {kt : TypeId} {q : Nat} (h : keyType P kt = some q) : ∃ d, P.underlying kt = some d ∧ keyOf d = some q := by
  unfold keyType at h
  exact Option.bind_eq_some_iff.1 h
theorem kOf_un {q : Nat} {r : RV} {d : TypeDesc} (hq : keyOf d = some q) (h : kOf r = q) : r ≠ .un := by
  intro e
  subst e
  have h' : 0 = q := h
  subst h'
  cases d <;> first | (cases hq; done) | (rename_i k; cases k <;> cases hq)
/-- a map's value, asked by its key -/
theorem ok_ml (F : Fr P ρ m nt t a.tmps) (s : Sim P ρ m g h w) {ty kt el : TypeId} {mo ko : Operand} {two : Bool} {z : Value} {q : Nat} (ho : o.op = .lookup ty mo ko two) (ht : P.underlying ty = some (.map kt el)) (hz : zeroOf P el = some z) (hq : keyType P kt = some q)
    (e : step (.ml q (quote z) two (opd P nt mo) (opd P nt ko)) ys cl fl lim t h n = .ok v h' n') : Ok1 P ρ g fl o a m w h n v h' n' := by
  have e1 : gM (SR.bad [140]) (ev t (opd P nt mo)) (fun b => bf (Nat.ble (Nat.succ b) lim) (gMK (.bad [141]) (hg h b) fun cs => gO (.bad [142]) (mSize cs) fun s =>
    bf (Nat.beq (kOf (ev t (opd P nt ko))) q) (gO (.bad [144]) (mFind q cs (ev t (opd P nt ko)) s 0) fun x => mRes two (quote z) cs h n x) (.bad [143])) (.bad [145])) = .ok v h' n' := e
  obtain ⟨d, hd, hdq⟩ := keyOf_ty hq
  obtain ⟨b, hb, e2⟩ := gM_ok e1 (by simp)
  rcases bf_or e2 with ⟨_, e3⟩ | ⟨_, e3⟩
  case inr => cases e3
  obtain ⟨c, hc, e4⟩ := gMK_ok e3 (by simp)
  obtain ⟨sz, hsz, e5⟩ := gO_ok e4 (by simp)
  rcases bf_or e5 with ⟨hkk, e6⟩ | ⟨_, e6⟩
  case inr => cases e6
  have hkk := Nat.eq_of_beq_eq_true hkk
  obtain ⟨x, hx, e7⟩ := gO_ok e6 (by simp)
  have dm := opd_ok F mo (fun q => by rw [q] at hb; cases hb)
  rw [hb] at dm
  obtain ⟨B, O, Z, hm, hmv⟩ := dm
  have dk := opd_ok F ko (kOf_un hdq hkk)
  obtain ⟨B', O', Z', es, ck, hm', hh, hK⟩ := s.map hc hsz
  rw [hm] at hm'
  cases hm'
  have hs := mSize_ok hK hsz
  have hIs := kOf_key hdq hkk dk
  have hfind := mFind_ok (es := es.toList) (c := c) hdq hkk dk (fun i e he => (hK.2 i e (by simpa using he)).1) sz 0 x (by simp [hs]) hx
  unfold mRes at e7
  obtain ⟨hu, e8⟩ := nU_ok e7 (by simp)
  rcases hfind with ⟨rfl, hf⟩ | ⟨j, en, rfl, hj, _, hf⟩
  · have hzd : den ρ m (quote z) z := quote_ok hu
    have hrun : (Instr.lookup ty (a.eval mo) (a.eval ko) two).run P w = .ok (if two then .tuple #[z, .bool false] else z) w := by
      rw [List.drop_zero] at hf
      simp [Instr.lookup, run_underlying ht, hmv, MapKept.run_getObj_map hh, MapKept.run_checkKey hd hIs, MapKept.run_findKey hd hf, zeroOf_run hz]
    have hex : (execOp a.eval o).run P w = .ok (.value (if two then .tuple #[z, .bool false] else z)) w := by
      simp [execOp, ho, hrun]
    cases two with
    | true =>
      cases e8
      exact Ok1.quiet s hex ⟨[z, .bool false], denC_cons.2 ⟨_, _, rfl, hzd, denC_cons.2 ⟨_, _, rfl, rfl, denC_nil.2 rfl⟩⟩, rfl⟩
    | false =>
      cases e8
      exact Ok1.quiet s hex hzd
  · have hj' : es[j]? = some en := by simpa using hj
    obtain ⟨_, hv, _, hvu⟩ := hK.2 j en hj'
    have hrun : (Instr.lookup ty (a.eval mo) (a.eval ko) two).run P w = .ok (if two then .tuple #[en.val, .bool true] else en.val) w := by
      rw [List.drop_zero] at hf
      simp [Instr.lookup, run_underlying ht, hmv, MapKept.run_getObj_map hh, MapKept.run_checkKey hd hIs, MapKept.run_findKey hd hf]
    have hex : (execOp a.eval o).run P w = .ok (.value (if two then .tuple #[en.val, .bool true] else en.val)) w := by
      simp [execOp, ho, hrun]
    cases two with
    | true =>
      cases e8
      exact Ok1.quiet s hex ⟨[en.val, .bool true], denC_cons.2 ⟨_, _, rfl, hv, denC_cons.2 ⟨_, _, rfl, rfl, denC_nil.2 rfl⟩⟩, rfl⟩
    | false =>
      cases e8
      exact Ok1.quiet s hex hv
/-- a map's entry, put -/
theorem ok_mi (F : Fr P ρ m nt t a.tmps) (s : Sim P ρ m g h w) (_hgf : g ≤ fl) {ty kt el : TypeId} {mo ko xo : Operand} {q : Nat} (ho : o.op = .insert ty mo ko xo ∨ o.op = .mapUpdate ty mo ko xo) (ht : P.underlying ty = some (.map kt el)) (hq : keyType P kt = some q)
    (e : step (.mi q (opd P nt mo) (opd P nt ko) (opd P nt xo)) ys cl fl lim t h n = .ok v h' n') : Ok1 P ρ g fl o a m w h n v h' n' := by
  have e1 : gM (SR.bad [130]) (ev t (opd P nt mo)) (fun b => bf (Nat.ble fl b) (gMK (.bad [131]) (hg h b) fun cs => gO (.bad [132]) (mSize cs) fun s => bf (Nat.ble s 65536)
    (bf (Nat.beq (kOf (ev t (opd P nt ko))) q) (gO (.bad [134]) (mFind q cs (ev t (opd P nt ko)) s 0) fun x => nU (.bad [135]) (ev t (opd P nt xo)) fun v => nU (.bad [136]) (ev t (opd P nt ko)) fun key => fT (mSet cs key v s x) fun cs => fT (hst h (.bk cs MAPZ) b) fun h => .ok .ud h n) (.bad [133])) (.bad [137])) (.bad [138])) = .ok v h' n' := e
  obtain ⟨d, hd, hdq⟩ := keyOf_ty hq
  obtain ⟨b, hb, e2⟩ := gM_ok e1 (by simp)
  rcases bf_or e2 with ⟨hfb, e3⟩ | ⟨_, e3⟩
  case inr => cases e3
  have hfb := Nat.le_of_ble_eq_true hfb
  obtain ⟨c, hc, e4⟩ := gMK_ok e3 (by simp)
  obtain ⟨sz, hsz, e5⟩ := gO_ok e4 (by simp)
  rcases bf_or e5 with ⟨hsm, e5⟩ | ⟨_, e5⟩
  case inr => cases e5
  have hsm := Nat.le_of_ble_eq_true hsm
  rcases bf_or e5 with ⟨hkk, e6⟩ | ⟨_, e6⟩
  case inr => cases e6
  have hkk := Nat.eq_of_beq_eq_true hkk
  obtain ⟨x, hx, e7⟩ := gO_ok e6 (by simp)
  obtain ⟨hxu, e7⟩ := nU_ok e7 (by simp)
  obtain ⟨hku, e7⟩ := nU_ok e7 (by simp)
  rw [fT_eq, fT_eq] at e7
  cases e7
  have dm := opd_ok F mo (fun q => by rw [q] at hb; cases hb)
  rw [hb] at dm
  obtain ⟨B, O, Z, hm, hmv⟩ := dm
  have dk := opd_ok F ko (kOf_un hdq hkk)
  have dx := opd_ok F xo hxu
  obtain ⟨B', O', Z', es, ck, hm', hh, hK⟩ := s.map hc hsz
  rw [hm] at hm'
  cases hm'
  have hs := mSize_ok hK hsz
  subst hs
  have hIs := kOf_key hdq hkk dk
  have hfind := mFind_ok (es := es.toList) (c := c) hdq hkk dk (fun i e he => (hK.2 i e (by simpa using he)).1) es.size 0 x (by simp) hx
  refine ⟨Ab.set _ hfb (fun _ _ _ => ⟨_, _, hc⟩), fun _ K Q hKK => ?_⟩
  rcases hfind with ⟨rfl, hf⟩ | ⟨j, en, rfl, hj, hje, hf⟩
  · rw [List.drop_zero] at hf
    have hK' : MapK ρ m (mSet c (ev t (opd P nt ko)) (ev t (opd P nt xo)) es.size none) (es.push { key := a.eval ko, val := a.eval xo, born := ck }) := by
      have e0 : mSet c (ev t (opd P nt ko)) (ev t (opd P nt xo)) es.size none = cst (cst (cst c (ev t (opd P nt ko)) (1 + 2 * es.size)) (ev t (opd P nt xo)) (2 + 2 * es.size)) (.i .i64 (.ofNat (es.size + 1))) 0 := by
        show fT _ _ = _
        rw [fT_eq, fT_eq]; rfl
      rw [e0]
      refine ⟨by rw [cg_cst_in _ _ _ (by decide)]; simp, fun i e he => ?_⟩
      rw [Array.getElem?_push] at he
      rw [cg_cst_ne _ _ (by omega), cg_cst_ne _ _ (show 2 + 2 * i ≠ 0 by omega)]
      split at he
      · rename_i hi
        subst hi
        cases he
        rw [cg_cst_ne _ _ (by omega), cg_cst_in _ _ _ (by omega), cg_cst_in _ _ _ (by omega)]
        exact ⟨dk, dx, hku, hxu⟩
      · rename_i hi
        rw [cg_cst_ne _ _ (by omega), cg_cst_ne _ _ (by omega), cg_cst_ne _ _ (by omega), cg_cst_ne _ _ (by omega)]
        exact hK.2 i e he
    have hT := Tr.setMap (n := n) (ob' := .map _ (ck + 1)) s hc hfb hm hh hK' (fun _ h => by cases h)
    refine op_skip ?_ (hKK _ _ _ hT rfl)
    have hrun : (Instr.mapUpdate ty (a.eval mo) (a.eval ko) (a.eval xo)).run P w = .ok () { w with heap := w.heap.setIfInBounds B (.map (es.push { key := a.eval ko, val := a.eval xo, born := ck }) (ck + 1)) } := by
      simp [Instr.mapUpdate, run_underlying ht, hmv, MapKept.run_getObj_map hh, MapKept.run_checkKey hd hIs, MapKept.run_findKey hd hf, MapKept.run_setObj_map _ hh, Result.andThen]
    rcases ho with ho | ho <;> simp [execOp, ho, hrun]
  · rw [List.drop_zero] at hf
    have hj' : es[j]? = some en := by simpa using hj
    have hjl : j < es.size := (Array.getElem?_eq_some_iff.1 hj').1
    have hK' : MapK ρ m (mSet c (ev t (opd P nt ko)) (ev t (opd P nt xo)) es.size (some j)) (es.modify j fun e => { e with key := a.eval ko, val := a.eval xo }) := by
      have e0 : mSet c (ev t (opd P nt ko)) (ev t (opd P nt xo)) es.size (some j) = cst c (ev t (opd P nt xo)) (2 + 2 * j) := rfl
      rw [e0]
      refine ⟨by rw [cg_cst_ne _ _ (by omega), hK.1]; simp, fun i e he => ?_⟩
      rw [cg_cst_ne _ _ (show 1 + 2 * i ≠ 2 + 2 * j by omega)]
      rw [Array.getElem?_modify] at he
      split at he
      · rename_i hi
        subst hi
        rw [hj'] at he
        cases he
        obtain ⟨k1, k2, k3, k4⟩ := hK.2 j en hj'
        rw [cg_cst_in _ _ _ (by omega)]
        exact ⟨hje ▸ k1, dx, k3, hxu⟩
      · rename_i hi
        rw [cg_cst_ne _ _ (by omega)]
        exact hK.2 i e he
    have hT := Tr.setMap (n := n) (ob' := .map _ ck) s hc hfb hm hh hK' (fun _ h => by cases h)
    refine op_skip ?_ (hKK _ _ _ hT rfl)
    have hrun : (Instr.mapUpdate ty (a.eval mo) (a.eval ko) (a.eval xo)).run P w = .ok () { w with heap := w.heap.setIfInBounds B (.map (es.modify j fun e => { e with key := a.eval ko, val := a.eval xo }) ck) } := by
      simp [Instr.mapUpdate, run_underlying ht, hmv, MapKept.run_getObj_map hh, MapKept.run_checkKey hd hIs, MapKept.run_findKey hd hf, hj', hje, MapKept.run_keyThatStays hIs, MapKept.run_setObj_map _ hh, Result.andThen]
    rcases ho with ho | ho <;> simp [execOp, ho, hrun]
end Go.Rn
namespace Go.Rn
variable {ρ : Nat → Int} {m m' : Mp} {P : Program}
variable {g fl n n' nt lim : Nat} {h h' : HT} {t : FT} {a : Act} {o : Oper} {w : World} {v : RV} {ys : Ys} {cl : Cl'}
theorem step_bad (e : step badP ys cl fl lim t h n = .ok v h' n') : False := by
  have e1 : gT (SR.bad [63]) (RV.un) (fun c => okV (chGet c 0) h n 64) = .ok v h' n' := e
  cases e1
theorem ok_mvP (F : Fr P ρ m nt t a.tmps) (s : Sim P ρ m g h w) {x : Operand} (ho : o.op = .move x ∨ o.op = .assign x) (e : step (mvP P nt x) ys cl fl lim t h n = .ok v h' n') : Ok1 P ρ g fl o a m w h n v h' n' := by
  unfold mvP at e
  split at e
  · have e1 : SR.ok .un h n = .ok v h' n' := e
    cases e1
    refine Ok1.quiet (u := a.eval x) s ?_ trivial
    rcases ho with ho | ho <;> simp [execOp, ho]
  · exact ok_mv F s ho e
/-- an operation's word is the model's -/
theorem step_ok (hy : YsOk ρ ys) (hcl : ClOk P ρ g cl) (F : Fr P ρ m nt t a.tmps) (s : Sim P ρ m g h w) (hgf : g ≤ fl) (hf : fl ≤ n) {rp : RP} (hc : compOp P nt o.op = some rp)
    (e : step rp ys cl fl lim t h n = .ok v h' n') : Ok1 P ρ g fl o a m w h n v h' n' := by
  cases ho : o.op with
  | move x => rw [ho] at hc; cases hc; exact ok_mvP F s (.inl ho) e
  | assign x => rw [ho] at hc; cases hc; exact ok_mvP F s (.inr ho) e
  | pick c x y => rw [ho] at hc; cases hc; exact ok_pick F s ho e
  | alloc ty =>
    rw [ho] at hc
    have hc1 : (zeroOf P ty).bind (fun z => some (.al (chain z.cells.toList))) = some rp := hc
    obtain ⟨z, hz, e1⟩ := Option.bind_eq_some_iff.1 hc1
    cases e1
    exact ok_al s hf ho hz e
  | box ty x => rw [ho] at hc; cases hc; exact ok_bx F s hf ho e
  | build ty ps =>
    rw [ho] at hc
    simp only [compOp, Option.bind_eq_bind, Option.bind_eq_some_iff] at hc
    obtain ⟨z, hz, l, hl, h1⟩ := hc
    split at h1
    · rename_i hk
      cases h1
      exact ok_bd F s ho hz hl hk e
    · cases h1
  | buildSlice ty len ps =>
    rw [ho] at hc
    simp only [compOp] at hc
    split at hc
    · rename_i el hu
      simp only [Option.bind_eq_bind, Option.bind_eq_some_iff] at hc
      obtain ⟨sz, hs, z, hz, h1⟩ := hc
      split at h1
      · rename_i hk
        cases h1
        exact ok_bs F s hf ho hu hs hz hk.1 hk.2.1 hk.2.2.1 hk.2.2.2 e
      · cases h1
    · cases hc
  | load ty x =>
    rw [ho] at hc
    simp only [compOp, Option.bind_eq_bind, Option.bind_eq_some_iff] at hc
    obtain ⟨sz, hs, gg, hg, h1⟩ := hc
    cases h1
    exact ok_ld F s hf ho hs hg e
  | store ty x y =>
    rw [ho] at hc
    simp only [compOp, Option.bind_eq_bind, Option.bind_eq_some_iff] at hc
    obtain ⟨sz, hs, h1⟩ := hc
    split at h1
    · rename_i h0
      cases h1
      exact ok_st F s hf hgf h0 ho hs e
    · cases h1
  | nilCheck x => rw [ho] at hc; cases hc; exact ok_nc F s ho e
  | binOp op ty x y yt =>
    rw [ho] at hc
    simp only [compOp] at hc
    split at hc
    · split at hc
      · rename_i hu; cases hc; exact ok_bq F s (.inl ⟨rfl, rfl⟩) ho hu e
      · rename_i el hu; cases hc; exact ok_nq F s (.inl ⟨rfl, rfl⟩) ho (.inl ⟨rfl, el, hu⟩) e
      · rename_i el hu; cases hc; exact ok_nq F s (.inl ⟨rfl, rfl⟩) ho (.inr (.inl ⟨rfl, el, hu⟩)) e
      · rename_i a b c hu; cases hc; exact ok_nq F s (.inl ⟨rfl, rfl⟩) ho (.inr (.inr ⟨rfl, a, b, c, hu⟩)) e
      · rename_i fs hu; cases hc; exact ok_cse F s hy (.inl ⟨rfl, rfl⟩) ho hu e
      · rename_i len el hu; cases hc; exact ok_cae F s hy (.inl ⟨rfl, rfl⟩) ho hu e
      · cases hc; exact ok_bn F s hy ho e
    · split at hc
      · rename_i hu; cases hc; exact ok_bq F s (.inr ⟨rfl, rfl⟩) ho hu e
      · rename_i el hu; cases hc; exact ok_nq F s (.inr ⟨rfl, rfl⟩) ho (.inl ⟨rfl, el, hu⟩) e
      · rename_i el hu; cases hc; exact ok_nq F s (.inr ⟨rfl, rfl⟩) ho (.inr (.inl ⟨rfl, el, hu⟩)) e
      · rename_i a b c hu; cases hc; exact ok_nq F s (.inr ⟨rfl, rfl⟩) ho (.inr (.inr ⟨rfl, a, b, c, hu⟩)) e
      · rename_i fs hu; cases hc; exact ok_cse F s hy (.inr ⟨rfl, rfl⟩) ho hu e
      · rename_i len el hu; cases hc; exact ok_cae F s hy (.inr ⟨rfl, rfl⟩) ho hu e
      · cases hc; exact ok_bn F s hy ho e
    · cases hc; exact ok_bn F s hy ho e
  | unOp op ty x =>
    rw [ho] at hc
    simp only [compOp] at hc
    split at hc
    · cases hc; exact ok_ng F s ho e
    · cases hc; exact ok_nt F s ho e
    · cases hc
  | convert sr ds x =>
    rw [ho] at hc
    simp only [compOp] at hc
    split at hc
    · rename_i d k h1 h2; cases hc; exact ok_cv F s ho h1 h2 e
    · cases hc
  | makeFunc fn first captured =>
    rw [ho] at hc
    simp only [compOp] at hc
    split at hc
    · rename_i f hf1
      split at hc
      · rename_i hlt; cases hc; exact ok_mf F s ho hf1 hlt e
      · cases hc
    · rename_i f x hf1
      split at hc
      · rename_i hlt; cases hc; exact ok_mb F s hlt ho hf1 e
      · cases hc
    · cases hc
  | makeSlice ty l c =>
    rw [ho] at hc
    simp only [compOp] at hc
    split at hc
    · rename_i el hu
      simp only [Option.bind_eq_bind, Option.bind_eq_some_iff] at hc
      obtain ⟨i, hi, z, hz, h1⟩ := hc
      split at h1
      · rename_i hk
        cases h1
        exact ok_ms F s hf ho hu hi hz hk.1 hk.2.1 hk.2.2.1 hk.2.2.2 e
      · cases h1
    · cases hc
  | slice ty x lo hi mx =>
    rw [ho] at hc
    simp only [compOp] at hc
    split at hc
    · rename_i el hu
      simp only [Option.bind_eq_bind, Option.bind_eq_some_iff] at hc
      obtain ⟨sz, hs, h1⟩ := hc
      split at h1
      · rename_i hk
        cases h1
        exact ok_sc F s ho hu hs hk.2 e
      · cases h1
    · rename_i hu
      split at hc
      · rename_i hk
        cases hc
        exact ok_ss F s ho hu hk e
      · cases hc
    · rename_i k el hu
      simp only [Option.bind_eq_bind, Option.bind_eq_some_iff] at hc
      obtain ⟨sz, hs, h1⟩ := hc
      split at h1
      · rename_i hk
        cases h1
        exact ok_sa F s ho hu hs hk.2 e
      · cases h1
    · cases hc
  | fieldAddr ty x k =>
    rw [ho] at hc
    simp only [compOp] at hc
    split at hc
    · rename_i fs hu
      simp only [Option.bind_eq_bind, Option.bind_eq_some_iff] at hc
      obtain ⟨f, hf1, sz, hs, h1⟩ := hc
      split at h1
      · rename_i h0
        cases h1
        exact ok_fa F s ho hu hf1 hs h0 e
      · cases h1
    · cases hc
  | field ty x k =>
    rw [ho] at hc
    simp only [compOp] at hc
    split at hc
    · rename_i fs hu
      simp only [Option.bind_eq_bind, Option.bind_eq_some_iff] at hc
      obtain ⟨f, hf1, sz, hs, gg, hg, h1⟩ := hc
      cases h1
      exact ok_fd F s ho hu hf1 hs hg e
    · cases hc
  | indexAddr ty x i =>
    rw [ho] at hc
    simp only [compOp] at hc
    split at hc
    · rename_i el hu
      simp only [Option.bind_eq_bind, Option.bind_eq_some_iff] at hc
      obtain ⟨sz, hs, h1⟩ := hc
      split at h1
      · cases h1; exact ok_ia F s ho hu hs e
      · cases h1
    · rename_i k el hu
      simp only [Option.bind_eq_bind, Option.bind_eq_some_iff] at hc
      obtain ⟨sz, hs, h1⟩ := hc
      split at h1
      · cases h1; exact ok_ip F s ho hu hs e
      · cases h1
    · cases hc
  | index ty x i =>
    rw [ho] at hc
    simp only [compOp] at hc
    split at hc
    · rename_i k el hu
      simp only [Option.bind_eq_bind, Option.bind_eq_some_iff] at hc
      obtain ⟨sz, hs, gg, hg, h1⟩ := hc
      split at h1
      · cases h1; exact ok_ix F s ho hu hs hg e
      · cases h1
    · rename_i hu; cases hc; exact ok_sx F s ho hu e
    · cases hc
  | extract x k => rw [ho] at hc; cases hc; exact ok_ex F s ho e
  | makeInterface ty x =>
    rw [ho] at hc
    simp only [compOp] at hc
    split at hc
    · cases hc
    · rename_i d hne hu; cases hc; exact ok_mkIf F s ho hu hne e
    · cases hc
  | typeAssert x xt ty two =>
    rw [ho] at hc
    simp only [compOp] at hc
    split at hc
    · cases hc
    · rename_i d hne hu
      simp only [Option.bind_eq_bind, Option.bind_eq_some_iff] at hc
      obtain ⟨z, hz, h1⟩ := hc
      cases h1
      exact ok_ta F s ho hu hne hz e
    · cases hc
  | call c =>
    rw [ho] at hc
    simp only [compOp, compCall] at hc
    split at hc
    · rename_i f hcc
      split at hc
      · rename_i hk; cases hc; exact ok_cl F s hcl hgf hf ho hcc hk.1 hk.2 e
      · cases hc
    · rename_i x _ hcc; cases hc; exact ok_cf F s hcl hgf hf ho hcc e
    · rename_i x name hcc; cases hc; exact ok_iv F s hcl hgf hf ho hcc e
    · rename_i b hcc
      split at hc
      · rename_i x ty hx ht
        split at hc
        · rename_i hu; cases hc; exact ok_ls F s ho hcc hx ht hu e
        · rename_i el hu; cases hc; exact ok_ln F s ho hcc hx ht hu e
        · rename_i k el hu; cases hc; exact ok_la F s ho (.inl hcc) hx ht hu e
        · cases hc
      · rename_i x ty hx ht
        split at hc
        · rename_i el hu; cases hc; exact ok_cp F s ho hcc hx ht hu e
        · rename_i k el hu; cases hc; exact ok_la F s ho (.inr hcc) hx ht hu e
        · cases hc
      · rename_i x y ty ty2 hx ht
        split at hc
        · rename_i el hu heq
          have : ty = ty2 := by simpa using heq
          subst this
          simp only [Option.bind_eq_bind, Option.bind_eq_some_iff] at hc
          obtain ⟨i, hi, z, hz, h1⟩ := hc
          split at h1
          · rename_i hk
            cases h1
            exact ok_ap F s hgf hf ho hcc hx ht hu hi hz hk.1 hk.2.2 hk.2.1 e
          · cases h1
        · rename_i el hu heq
          split at hc
          · rename_i k0 hu2
            simp only [Option.bind_eq_bind, Option.bind_eq_some_iff] at hc
            obtain ⟨i, hi, z, hz, h1⟩ := hc
            split at h1
            · rename_i hk
              cases h1
              exact ok_az F s hf ho hcc hx ht hu hu2 hi hz hk.1 hk.2.2.1 hk.2.1 hk.2.2.2 e
            · cases h1
          · cases hc
        · cases hc
      · rename_i x y ty ty2 hx ht
        split at hc
        · rename_i el _ hu _
          simp only [Option.bind_eq_bind, Option.bind_eq_some_iff] at hc
          obtain ⟨sz, hs, h1⟩ := hc
          split at h1
          · rename_i h0
            cases h1
            exact ok_cy F s hgf hf ho hcc hx ht hu hs h0 e
          · cases h1
        · cases hc
      · rename_i x ty hx ht
        split at hc
        · rename_i el hu
          simp only [Option.bind_eq_bind, Option.bind_eq_some_iff] at hc
          obtain ⟨i, hi, z, hz, h1⟩ := hc
          split at h1
          · rename_i hk
            cases h1
            exact ok_cr F s hgf hf ho hcc hx ht hu hi hz hk.1 hk.2.1 hk.2.2 e
          · cases h1
        · cases hc
      · rename_i x y hx; cases hc; exact ok_mm F s ho (.inl ⟨hcc, rfl⟩) hx e
      · rename_i x y hx; cases hc; exact ok_mm F s ho (.inr ⟨hcc, rfl⟩) hx e
      · cases hc
  | makeMap ty r =>
    rw [ho] at hc
    simp only [compOp] at hc
    split at hc
    · rename_i kt el ht hr
      cases hc
      exact ok_mk s hf ho ht hr e
    · cases hc
  | insert ty mo ko xo =>
    rw [ho] at hc
    simp only [compOp] at hc
    split at hc
    · rename_i kt el ht
      simp only [Option.bind_eq_bind, Option.bind_eq_some_iff] at hc
      obtain ⟨q, hq, h1⟩ := hc
      cases h1
      exact ok_mi F s hgf (.inl ho) ht hq e
    · cases hc
  | mapUpdate ty mo ko xo =>
    rw [ho] at hc
    simp only [compOp] at hc
    split at hc
    · rename_i kt el ht
      simp only [Option.bind_eq_bind, Option.bind_eq_some_iff] at hc
      obtain ⟨q, hq, h1⟩ := hc
      cases h1
      exact ok_mi F s hgf (.inr ho) ht hq e
    · cases hc
  | lookup ty mo ko two =>
    rw [ho] at hc
    simp only [compOp] at hc
    split at hc
    · rename_i kt el ht
      simp only [Option.bind_eq_bind, Option.bind_eq_some_iff] at hc
      obtain ⟨z, hz, q, hq, h1⟩ := hc
      cases h1
      exact ok_ml F s ho ht hz hq e
    · cases hc
  | _ => rw [ho] at hc; cases hc
end Go.Rn
