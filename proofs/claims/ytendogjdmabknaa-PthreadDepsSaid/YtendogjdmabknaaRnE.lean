/-
  One text of a symbolic evaluator over the model, shown sound once for every program: no statement is claimed here.
-/
import Derived.Test.YtendogjdmabknaaRnD
namespace Go.Rn
variable {ρ : Nat → Int} {m m' : Mp} {P : Program}
/-! ### chains -/
theorem chLen_cons {a r : RV} {n : Nat} (h : chLen (.cons a r) = some n) : ∃ k, chLen r = some k ∧ n = k + 1 := by
  have h' : gO none (chLen r) (fun n => some (Nat.succ n)) = some n := h
  obtain ⟨k, hk, e⟩ := gO_ok h' (by simp)
  cases e
  exact ⟨k, hk, rfl⟩
theorem chLen_ok {c : RV} : ∀ (n : Nat) (cs : List Value), chLen c = some n → denC ρ m c cs → cs.length = n := by
  induction c with
  | nil => intro n cs h hd; cases h; rw [denC_nil.1 hd]; rfl
  | cons a r _ ih =>
    intro n cs h hd
    obtain ⟨x, xs, rfl, _, h2⟩ := denC_cons.1 hd
    obtain ⟨k, hk, rfl⟩ := chLen_cons h
    simp [ih k xs hk h2]
  | _ => intro n cs h; cases h
theorem chGet_ok {c : RV} : ∀ (k : Nat) (cs : List Value), chGet c k ≠ .un → denC ρ m c cs → ∃ v, cs[k]? = some v ∧ den ρ m (chGet c k) v := by
  induction c with
  | cons a r _ ih =>
    intro k cs h hd
    obtain ⟨x, xs, rfl, h1, h2⟩ := denC_cons.1 hd
    cases k with
    | zero => exact ⟨x, rfl, h1⟩
    | succ k => exact ih k xs h h2
  | _ => intro k cs h; exact absurd rfl h
theorem chSub_ok {c : RV} {cs : List Value} (hd : denC ρ m c cs) : ∀ (n k : Nat), chSub c n k ≠ .un → denC ρ m (chSub c n k) ((cs.drop k).take n) ∧ (n = 0 ∨ k + n ≤ cs.length) := by
  intro n
  induction n with
  | zero => intro k _; exact ⟨denC_nil.2 (by simp), .inl rfl⟩
  | succ n ih =>
    intro k h
    have e : chSub c (n + 1) k = kons (chGet c k) (chSub c n (k + 1)) := rfl
    obtain ⟨h1, h2, h3⟩ := kons_ok e.symm h
    obtain ⟨v, hv, hdv⟩ := chGet_ok k cs h1 hd
    have hk : k < cs.length := by
      rcases Nat.lt_or_ge k cs.length with h | h
      · exact h
      · rw [List.getElem?_eq_none h] at hv; cases hv
    have hdrop : cs.drop k = v :: cs.drop (k + 1) := by
      rw [List.drop_eq_getElem_cons hk]
      congr 1
      rw [List.getElem?_eq_getElem hk] at hv
      exact Option.some.inj hv
    obtain ⟨g1, g2⟩ := ih (k + 1) h2
    rw [h3, hdrop]
    exact ⟨denC_cons.2 ⟨v, (cs.drop (k + 1)).take n, rfl, hdv, g1⟩, .inr (by omega)⟩
theorem chApp_ok {c r : RV} {rs : List Value} (hr : denC ρ m r rs) : ∀ (cs : List Value), chApp c r ≠ .un → denC ρ m c cs → denC ρ m (chApp c r) (cs ++ rs) := by
  induction c with
  | nil => intro cs _ hd; rw [denC_nil.1 hd]; exact hr
  | cons a t _ ih =>
    intro cs h hd
    obtain ⟨x, xs, rfl, h1, h2⟩ := denC_cons.1 hd
    have e : chApp (.cons a t) r = nU .un (chApp t r) (fun q => .cons a q) := rfl
    obtain ⟨h3, h4⟩ := nU_ok e.symm (fun e => h e.symm)
    rw [← h4]
    exact denC_cons.2 ⟨x, xs ++ rs, rfl, h1, ih xs h3 h2⟩
  | _ => intro cs h; exact absurd rfl h
theorem chApp_len {c r : RV} {b : Nat} (hr : chLen r = some b) : ∀ (a : Nat), chLen c = some a → chApp c r ≠ .un ∧ chLen (chApp c r) = some (a + b) := by
  induction c with
  | nil =>
    intro a h
    cases h
    refine ⟨fun e => ?_, by rw [Nat.zero_add]; exact hr⟩
    have e' : r = .un := e
    rw [e'] at hr; cases hr
  | cons x t _ ih =>
    intro a h
    obtain ⟨k, hk, rfl⟩ := chLen_cons h
    obtain ⟨h1, h2⟩ := ih k hk
    have e : chApp (.cons x t) r = .cons x (chApp t r) := by
      show nU RV.un (chApp t r) (fun q => RV.cons x q) = _
      revert h1
      cases chApp t r <;> intro h1 <;> first | rfl | exact absurd rfl h1
    rw [e]
    refine ⟨by simp, ?_⟩
    show gO none (chLen (chApp t r)) (fun n => some (Nat.succ n)) = _
    rw [h2]
    show some (Nat.succ (k + b)) = _
    congr 1; omega
  | _ => intro a h; cases h
theorem chApp_un (z : RV) : chApp z .un = .un := by
  induction z with
  | cons a t _ ih => show nU RV.un (chApp t .un) _ = RV.un; rw [ih]; rfl
  | _ => rfl
theorem rep_ok {z : RV} {zs : List Value} (hz : denC ρ m z zs) : ∀ (n : Nat), rep z n ≠ .un → denC ρ m (rep z n) (List.replicate n zs).flatten := by
  intro n
  induction n with
  | zero => intro _; exact denC_nil.2 rfl
  | succ n ih =>
    intro h
    have e : rep z (n + 1) = chApp z (rep z n) := rfl
    have hn : rep z n ≠ .un := by
      intro hu
      rw [e, hu] at h
      exact h (chApp_un z)
    rw [e] at h ⊢
    rw [List.replicate_succ, List.flatten_cons]
    exact chApp_ok (ih hn) zs h hz
/-! ### cells -/
/-- what is known of a row -/
def Knows (ρ : Nat → Int) (m : Mp) (c : CT) (C : Array Value) (O : Nat) : Prop := ∀ k, cg c k ≠ .un → ∃ v, C[O + k]? = some v ∧ den ρ m (cg c k) v ∧ Cell v
theorem Knows.le {c : CT} {C : Array Value} {O : Nat} (h : Knows ρ m c C O) (hl : Le m m') : Knows ρ m' c C O := fun k hk => let ⟨v, h1, h2, h3⟩ := h k hk; ⟨v, h1, den_le hl h2, h3⟩
theorem kons_len {x r : RV} {n : Nat} (h : kons x r ≠ .un) (hr : chLen r = some n) : chLen (kons x r) = some (n + 1) := by
  obtain ⟨_, _, e⟩ := kons_ok (y := kons x r) rfl h
  rw [e]
  show gO none (chLen r) (fun n => some (Nat.succ n)) = _
  rw [hr]; rfl
theorem rd_ok {c : CT} {C : Array Value} {O : Nat} (hk : Knows ρ m c C O) : ∀ (n k : Nat), rd c n k ≠ .un → chLen (rd c n k) = some n ∧ ∃ cs : List Value, cs.length = n ∧ denC ρ m (rd c n k) cs ∧ (∀ x ∈ cs, Cell x) ∧ ∀ (j : Nat) (v : Value), cs[j]? = some v → C[O + k + j]? = some v := by
  intro n
  induction n with
  | zero => intro k _; exact ⟨rfl, [], rfl, denC_nil.2 rfl, by simp, by simp⟩
  | succ n ih =>
    intro k h
    have e : rd c (n + 1) k = kons (cg c k) (rd c n (k + 1)) := rfl
    obtain ⟨h1, h2, h3⟩ := kons_ok e.symm h
    obtain ⟨v, hv, hdv, hcv⟩ := hk k h1
    obtain ⟨hlen, cs, hl, hd, hc, hj⟩ := ih (k + 1) h2
    refine ⟨by rw [e] at h ⊢; exact kons_len h hlen, v :: cs, by simp [hl], by rw [h3]; exact denC_cons.2 ⟨v, cs, rfl, hdv, hd⟩, by simpa using ⟨hcv, hc⟩, fun j u hu => ?_⟩
    cases j with
    | zero => simp at hu; subst hu; exact hv
    | succ j =>
      have := hj j u (by simpa using hu)
      rwa [show O + k + (j + 1) = O + (k + 1) + j by omega]
theorem lay_ok {c : RV} : ∀ (n : Nat) (cs : List Value) (t : CT) (k : Nat), chLen c = some n → denC ρ m c cs → ∀ j, cg (lay c t k) j ≠ .un →
    (k ≤ j ∧ cg (lay c t k) j = chGet c (j - k) ∧ ∃ v, cs[j - k]? = some v ∧ den ρ m (cg (lay c t k) j) v) ∨ ((j < k ∨ k + cs.length ≤ j) ∧ cg (lay c t k) j = cg t j) := by
  induction c with
  | nil => intro n cs t k _ hd j _; rw [denC_nil.1 hd]; exact .inr ⟨by simp; omega, rfl⟩
  | cons a r _ ih =>
    intro n cs t k hn hd j hj
    obtain ⟨q, hq, rfl⟩ := chLen_cons hn
    obtain ⟨x, xs, rfl, h1, h2⟩ := denC_cons.1 hd
    have e : lay (.cons a r) t k = fT (cst t a k) (fun t => lay r t (k + 1)) := rfl
    rw [fT_eq] at e
    rw [e] at hj ⊢
    rcases ih q xs (cst t a k) (k + 1) hq h2 j hj with ⟨h3, h9, v, h4, h5⟩ | ⟨h3, h4⟩
    · refine .inl ⟨by omega, ?_, v, ?_, h5⟩
      · rw [h9, show j - k = (j - (k + 1)) + 1 by omega]; rfl
      · rwa [show j - k = (j - (k + 1)) + 1 by omega, List.getElem?_cons_succ]
    · rw [h4] at hj ⊢
      rcases cg_cst t a k j with ⟨h6, h7 | h7⟩ | ⟨h6, h7⟩
      · refine .inl ⟨by omega, by rw [h7, h6, Nat.sub_self]; rfl, x, by simp [h6], ?_⟩
        rw [h7]; exact h1
      · exact absurd h7 hj
      · exact .inr ⟨by simp; omega, h7⟩
  | _ => intro n cs t k hn; cases hn
theorem over_ok {c : RV} : ∀ (cs : List Value) (t t' : CT) (k : Nat), over c t k = some t' → denC ρ m c cs →
    (∀ i, i < cs.length → cg t (k + i) ≠ .un) ∧ ∀ j, cg t' j ≠ .un →
    (k ≤ j ∧ ∃ v, cs[j - k]? = some v ∧ den ρ m (cg t' j) v) ∨ ((j < k ∨ k + cs.length ≤ j) ∧ cg t' j = cg t j) := by
  induction c with
  | nil =>
    intro cs t t' k h hd
    rw [denC_nil.1 hd]
    have h' : some t = some t' := h
    cases h'
    exact ⟨by simp, fun j _ => .inr ⟨by simp; omega, rfl⟩⟩
  | cons a r _ ih =>
    intro cs t t' k h hd
    obtain ⟨x, xs, rfl, h1, h2⟩ := denC_cons.1 hd
    have e : over (.cons a r) t k = nU none (cg t k) (fun _ => fT (cst t a k) (fun t => over r t (k + 1))) := rfl
    rw [h] at e
    obtain ⟨hu, e2⟩ := nU_ok e.symm (by simp)
    rw [fT_eq] at e2
    obtain ⟨g1, g2⟩ := ih xs (cst t a k) t' (k + 1) e2 h2
    refine ⟨fun i hi => ?_, fun j hj => ?_⟩
    · cases i with
      | zero => exact hu
      | succ i =>
        have := g1 i (by simpa using hi)
        rw [show k + (i + 1) = k + 1 + i by omega]
        rcases cg_cst t a k (k + 1 + i) with ⟨h6, _⟩ | ⟨_, h7⟩
        · omega
        · rwa [h7] at this
    · rcases g2 j hj with ⟨h3, v, h4, h5⟩ | ⟨h3, h4⟩
      · refine .inl ⟨by omega, v, ?_, h5⟩
        rwa [show j - k = (j - (k + 1)) + 1 by omega, List.getElem?_cons_succ]
      · rw [h4] at hj ⊢
        rcases cg_cst t a k j with ⟨h6, h7 | h7⟩ | ⟨h6, h7⟩
        · refine .inl ⟨by omega, x, by simp [h6], ?_⟩
          rw [h7]; exact h1
        · exact absurd h7 hj
        · exact .inr ⟨by simp; omega, h7⟩
  | _ => intro cs t t' k h; cases h
/-! ### worlds -/
/-- what is known of a map: how many entries, each key, each value -/
def MapK (ρ : Nat → Int) (m : Mp) (c : CT) (es : Array MapEntry) : Prop := cg c 0 = .i .i64 (.ofNat es.size) ∧ ∀ i e, es[i]? = some e → den ρ m (cg c (1 + 2 * i)) e.key ∧ den ρ m (cg c (2 + 2 * i)) e.val ∧ cg c (1 + 2 * i) ≠ .un ∧ cg c (2 + 2 * i) ≠ .un
theorem MapK.le {c : CT} {es : Array MapEntry} (h : MapK ρ m c es) (hl : Le m m') : MapK ρ m' c es := ⟨h.1, fun i e he => let ⟨h1, h2, h3, h4⟩ := h.2 i e he; ⟨den_le hl h1, den_le hl h2, h3, h4⟩⟩
/-- how a loop's record stands, as its block says it -/
inductive LSt : RV → LoopState → Option Code → Prop where
  | ready : LSt (.b false) .ready none
  | busy (p : Option Code) : LSt (.b true) .busy p
  | ret : LSt .nil .done (some .ret)
  | ex (id : Nat) : LSt (.p id 0) .done (some (.exit id))
  | gone (p : Option Code) : LSt .np .exhausted p
/-- what is known of a loop's record: which range it is of, how it stands, what a round has of the activation -/
def LoopK (P : Program) (ρ : Nat → Int) (m : Mp) (c : CT) (rec : Loop) : Prop := ∃ key s nv sv psl A B f0 nt, cg c 0 = .fn key s ∧ LSt s rec.state rec.pending ∧ loopAt P key = some (f0, nt, rec.params, rec.assign, rec.body) ∧ compR P key = some (.r key nv sv psl A B) ∧
  nt ≤ rec.tmps.size ∧ ∀ (j : Nat) (p : Pa), sv[j]? = some p → cg c (1 + j) ≠ .un → den ρ m (cg c (1 + j)) (rec.tmps.getD (p.val - 1) undef)
/-- what a block of the runner's that is no row stands for: a map, a loop's record -/
def Spec (P : Program) (ρ : Nat → Int) (m : Mp) (c : CT) : Obj → Prop
  | .map es _ => MapK ρ m c es
  | .loop rec => LoopK P ρ m c rec
  | _ => False
theorem Spec.le {c : CT} {o : Obj} (h : Spec P ρ m c o) (hl : Le m m') : Spec P ρ m' c o := by
  cases o <;> first | exact h.elim | exact MapK.le h hl | skip
  obtain ⟨key, s, nv, sv, psl, A, B, f0, nt, h1, h2, h3, h4, h5, h6⟩ := h
  exact ⟨key, s, nv, sv, psl, A, B, f0, nt, h1, h2, h3, h4, h5, fun j p hj hu => den_le hl (h6 j p hj hu)⟩
/-- what stands at a block: a row of cells, or something other -/
def At (P : Program) (ρ : Nat → Int) (m : Mp) (g b : Nat) (c : CT) (z B O Z : Nat) (w : World) : Prop :=
  (z ≠ MAPZ ∧ ∃ C el fr, w.heap[B]? = some (.cells C el fr) ∧ C.size = Z ∧ (g ≤ b → fr = (0, 0)) ∧ (∀ k, z ≤ k → cg c k = .un) ∧ Knows ρ m c C O) ∨ (z = MAPZ ∧ ∃ o, w.heap[B]? = some o ∧ Spec P ρ m c o)
theorem At.some {g b : Nat} {c : CT} {z B O Z : Nat} {w : World} (h : At P ρ m g b c z B O Z w) : ∃ o, w.heap[B]? = some o := by
  rcases h with ⟨_, C, el, fr, h, _⟩ | ⟨_, o, h, _⟩ <;> exact ⟨_, h⟩
theorem At.lt {g b : Nat} {c : CT} {z B O Z : Nat} {w : World} (h : At P ρ m g b c z B O Z w) : B < w.heap.size := by
  obtain ⟨_, h⟩ := h.some
  exact (Array.getElem?_eq_some_iff.1 h).1
theorem At.move {g b : Nat} {c : CT} {z B O Z : Nat} {w w' : World} (h : At P ρ m g b c z B O Z w) (e : w'.heap[B]? = w.heap[B]?) (hl : Le m m') : At P ρ m' g b c z B O Z w' := by
  rcases h with ⟨h0, C, el, fr, h1, h2, h3, h4, h5⟩ | ⟨h0, o, h1, h2⟩
  · exact .inl ⟨h0, C, el, fr, e.trans h1, h2, h3, h4, h5.le hl⟩
  · exact .inr ⟨h0, o, e.trans h1, h2.le hl⟩
structure Sim (P : Program) (ρ : Nat → Int) (m : Mp) (g : Nat) (h : HT) (w : World) : Prop where
  cell : ∀ b c z, hg h b = .bk c z → ∃ B O Z, m b = some (B, O, Z) ∧ At P ρ m g b c z B O Z w
  inj : ∀ b b' c z c' z' B O Z O' Z', hg h b = .bk c z → hg h b' = .bk c' z' → m b = some (B, O, Z) → m b' = some (B, O', Z') → b = b'
theorem Sim.cells {g : Nat} {h : HT} {w : World} (s : Sim P ρ m g h w) (b : Nat) (c : CT) (z : Nat) (hb : hg h b = .bk c z) (hz : z ≠ MAPZ) :
    ∃ B O Z C el fr, m b = some (B, O, Z) ∧ w.heap[B]? = some (.cells C el fr) ∧ C.size = Z ∧ (g ≤ b → fr = (0, 0)) ∧ (∀ k, z ≤ k → cg c k = .un) ∧ Knows ρ m c C O := by
  obtain ⟨B, O, Z, h1, h2⟩ := s.cell b c z hb
  rcases h2 with ⟨_, C, el, fr, h2⟩ | ⟨h2, _⟩
  · exact ⟨B, O, Z, C, el, fr, h1, h2⟩
  · exact absurd h2 hz
/-- nothing but what stands at these numbers has been made -/
def Ext (n n' : Nat) (m m' : Mp) : Prop := ∀ b, (b < n ∨ n' ≤ b) → m' b = m b
def Fresh (n n' : Nat) (m : Mp) : Prop := ∀ b, n ≤ b → b < n' → m b = none
/-- of what was there, nothing has turned but what stands at a number from 'fl' on -/
structure Keep (fl : Nat) (h : HT) (m : Mp) (w w' : World) : Prop where
  os : w'.os = w.os
  tape : w'.tape = w.tape
  output : w'.output = w.output
  size : w.heap.size ≤ w'.heap.size
  block : ∀ k, k < w.heap.size → (∀ b c z O Z, fl ≤ b → hg h b = .bk c z → m b ≠ some (k, O, Z)) → w'.heap[k]? = w.heap[k]?
  loops : ∀ (k : Nat) (rec : Loop), w.heap[k]? = some (.loop rec) → ∃ rec', w'.heap[k]? = some (.loop rec')
theorem setRow_loop (w : World) (B k : Nat) (C : Array Value) {r : Loop} (h : w.heap[k]? = some (.loop r)) : ∃ r', (w.setRow B C).heap[k]? = some (.loop r') := by
  refine ⟨r, ?_⟩
  by_cases e : k = B
  · subst e
    show (w.heap.modify k _)[k]? = _
    rw [Array.getElem?_modify]
    simp [h]
  · exact (setRow_other w B k C e).trans h
theorem Keep.refl (fl : Nat) (h : HT) (m : Mp) (w : World) : Keep fl h m w w := ⟨rfl, rfl, rfl, Nat.le_refl _, fun _ _ _ => rfl, fun _ r h => ⟨r, h⟩⟩
theorem Keep.drew (fl : Nat) (h : HT) (m : Mp) (w : World) : Keep fl h m w w.drew := ⟨rfl, rfl, rfl, Nat.le_refl _, fun _ _ _ => rfl, fun _ r h => ⟨r, h⟩⟩
theorem Ext.le {n n' : Nat} (h : Ext n n' m m') (hf : Fresh n n' m) : Le m m' := by
  intro b x hb
  by_cases hr : b < n ∨ n' ≤ b
  · rw [h b hr]; exact hb
  · have := hf b (by omega) (by omega)
    rw [this] at hb; cases hb
theorem Ext.refl (n n' : Nat) (m : Mp) : Ext n n' m m := fun _ _ => rfl
theorem Sim.of_heap {g : Nat} {h : HT} {w w' : World} (s : Sim P ρ m g h w) (e : w'.heap = w.heap) : Sim P ρ m g h w' := ⟨fun b c z hb => let ⟨B, O, Z, h1, h2⟩ := s.cell b c z hb; ⟨B, O, Z, h1, h2.move (by rw [e]) (Le.refl _)⟩, s.inj⟩
theorem Sim.sub {g : Nat} {h h' : HT} {w : World} (s : Sim P ρ m g h w) (e : ∀ b c z, hg h' b = .bk c z → hg h b = .bk c z) : Sim P ρ m g h' w :=
  ⟨fun b c z hb => s.cell b c z (e _ _ _ hb), fun b b' c z c' z' B O Z O' Z' h1 h2 h3 h4 => s.inj b b' c z c' z' B O Z O' Z' (e _ _ _ h1) (e _ _ _ h2) h3 h4⟩
theorem Sim.lt {g : Nat} {h : HT} {w : World} (s : Sim P ρ m g h w) {b : Nat} {c : CT} {z B O Z : Nat} (hb : hg h b = .bk c z) (hm : m b = some (B, O, Z)) : B < w.heap.size := by
  obtain ⟨B', O', Z', h1, h2⟩ := s.cell b c z hb
  rw [hm] at h1
  cases h1
  exact h2.lt
def upd (m : Mp) (n : Nat) (x : Nat × Nat × Nat) : Mp := fun b => if b = n then some x else m b
theorem upd_le {n : Nat} {x : Nat × Nat × Nat} (hn : m n = none) : Le m (upd m n x) := by
  intro b y hb
  unfold upd
  split
  · rename_i e; rw [e, hn] at hb; cases hb
  · exact hb
theorem upd_ext (n : Nat) (x : Nat × Nat × Nat) : Ext n (n + 1) m (upd m n x) := by
  intro b hb
  unfold upd
  rw [if_neg (by omega)]
theorem upd_self (n : Nat) (x : Nat × Nat × Nat) : upd m n x n = some x := by unfold upd; rw [if_pos rfl]
/-- a row at a new number: a new block of the world -/
theorem Sim.new {g n z : Nat} {h : HT} {w : World} (s : Sim P ρ m g h w) (hn : m n = none) (c : CT) (C : Array Value) (el : TypeId) (hmz : z ≠ MAPZ) (hz : ∀ k, z ≤ k → cg c k = .un)
    (hk : Knows ρ (upd m n (w.heap.size, 0, C.size)) c C 0) : Sim P ρ (upd m n (w.heap.size, 0, C.size)) g (hst h (.bk c z) n) (w.alloc (.cells C el (0, 0))) := by
  have hle : Le m (upd m n (w.heap.size, 0, C.size)) := upd_le hn
  have hno : ∀ c z, hg h n ≠ .bk c z := fun c z hc => by
    obtain ⟨B, O, Z, h1, _⟩ := s.cell n c z hc
    rw [hn] at h1; cases h1
  have hold : ∀ b c z, b ≠ n → hg (hst h (.bk c z) n) b = hg h b := fun b c z hb => by
    rcases hg_hst h (.bk c z) n b with ⟨h1, _⟩ | ⟨_, h1⟩
    · exact absurd h1 hb
    · exact h1
  refine ⟨fun b c' z' hb => ?_, fun b b' c1 z1 c2 z2 B O Z O' Z' h1 h2 h3 h4 => ?_⟩
  · by_cases e : b = n
    · subst e
      rcases hg_hst h (.bk c z) b b with ⟨_, h1 | h1⟩ | ⟨h1, _⟩
      · rw [hb] at h1
        cases h1
        exact ⟨_, _, _, upd_self _ _, .inl ⟨hmz, C, el, (0, 0), heap_alloc_new _ _, rfl, fun _ => rfl, hz, hk⟩⟩
      · rw [hb] at h1; cases h1
      · exact absurd rfl h1
    · rw [hold b c z e] at hb
      obtain ⟨B, O, Z, h1, h2⟩ := s.cell b c' z' hb
      exact ⟨B, O, Z, hle _ _ h1, h2.move (RowKit.Below.heap_alloc _ _ _ h2.lt) hle⟩
  · have key : ∀ b c1 z1 B O Z, b ≠ n → hg (hst h (.bk c z) n) b = .bk c1 z1 → upd m n (w.heap.size, 0, C.size) b = some (B, O, Z) → hg h b = .bk c1 z1 ∧ m b = some (B, O, Z) ∧ B < w.heap.size := fun b c1 z1 B O Z e h1 h3 => by
      rw [hold b c z e] at h1
      have h5 : m b = some (B, O, Z) := by
        unfold upd at h3; rwa [if_neg e] at h3
      exact ⟨h1, h5, s.lt h1 h5⟩
    by_cases e : b = n
    · by_cases e' : b' = n
      · omega
      · obtain ⟨_, _, h5⟩ := key b' c2 z2 B O' Z' e' h2 h4
        subst e
        rw [upd_self] at h3
        cases h3
        omega
    · by_cases e' : b' = n
      · obtain ⟨_, _, h5⟩ := key b c1 z1 B O Z e h1 h3
        subst e'
        rw [upd_self] at h4
        cases h4
        omega
      · obtain ⟨g1, g2, _⟩ := key b c1 z1 B O Z e h1 h3
        obtain ⟨g3, g4, _⟩ := key b' c2 z2 B O' Z' e' h2 h4
        exact s.inj b b' c1 z1 c2 z2 B O Z O' Z' g1 g3 g2 g4
end Go.Rn
