/-
  One text of a symbolic evaluator over the model, shown sound once for every program: no statement is claimed here.
-/
import Derived.Test.YtendogjdmabknaaRnE
namespace Go.Rn
variable {ρ : Nat → Int} {m m' : Mp} {P : Program}
def laid (C : Array Value) (i : Nat) (ys : List Value) : Array Value := (C.toList.take i ++ ys ++ C.toList.drop (i + ys.length)).toArray
theorem laid_size {C : Array Value} {i : Nat} {ys : List Value} (h : i + ys.length ≤ C.size) : (laid C i ys).size = C.size := by
  simp [laid]; omega
theorem laid_in {C : Array Value} {i : Nat} {ys : List Value} (h : i + ys.length ≤ C.size) {j : Nat} {v : Value} (hj : ys[j]? = some v) : (laid C i ys)[i + j]? = some v := by
  have hl : (C.toList.take i).length = i := by simp; omega
  have hjl : j < ys.length := by
    rcases Nat.lt_or_ge j ys.length with q | q
    · exact q
    · rw [List.getElem?_eq_none q] at hj; cases hj
  simp only [laid, List.getElem?_toArray]
  rw [List.append_assoc, List.getElem?_append_right (by omega), hl, List.getElem?_append_left (by omega), show i + j - i = j by omega]
  exact hj
theorem laid_out {C : Array Value} {i : Nat} {ys : List Value} (h : i + ys.length ≤ C.size) {j : Nat} (hj : j < i ∨ i + ys.length ≤ j) : (laid C i ys)[j]? = C[j]? := by
  have hl : (C.toList.take i).length = i := by simp; omega
  simp only [laid, List.getElem?_toArray]
  rcases hj with hj | hj
  · rw [List.append_assoc, List.getElem?_append_left (by omega), List.getElem?_take_of_lt hj, Array.getElem?_toList]
  · rw [List.append_assoc, List.getElem?_append_right (by omega), hl, List.getElem?_append_right (by omega), List.getElem?_drop, Array.getElem?_toList]
    congr 1; omega
/-- every row from 'fl' on is a new one, or was one -/
def Orig (fl : Nat) (h : HT) (m : Mp) (w : World) (h' : HT) (m' : Mp) : Prop := ∀ b c z B O Z, fl ≤ b → hg h' b = .bk c z → m' b = some (B, O, Z) → w.heap.size ≤ B ∨ ∃ b0 c0 z0 O0 Z0, fl ≤ b0 ∧ hg h b0 = .bk c0 z0 ∧ m b0 = some (B, O0, Z0)
structure Tr (P : Program) (ρ : Nat → Int) (g fl : Nat) (h : HT) (n : Nat) (m : Mp) (w : World) (h' : HT) (n' : Nat) (m' : Mp) (w' : World) : Prop where
  sim : Sim P ρ m' g h' w'
  ext : Ext n n' m m'
  keep : Keep fl h m w w'
  orig : Orig fl h m w h' m'
/-- what is plain of the runner's own heap -/
def Dom (h : HT) (n : Nat) : Prop := ∀ b c z, hg h b = .bk c z → b < n
structure Ab (fl : Nat) (h : HT) (n : Nat) (h' : HT) (n' : Nat) : Prop where
  le : n ≤ n'
  old : ∀ b, b < fl → hg h' b = hg h b
  made : ∀ b c z, hg h' b = .bk c z → (∃ c z, hg h b = .bk c z) ∨ (n ≤ b ∧ b < n')
theorem Ab.refl (fl : Nat) (h : HT) (n : Nat) : Ab fl h n h n := ⟨Nat.le_refl _, fun _ _ => rfl, fun _ _ _ e => .inl ⟨_, _, e⟩⟩
theorem Ab.trans {fl n n1 n2 : Nat} {h h1 h2 : HT} (a : Ab fl h n h1 n1) (b : Ab fl h1 n1 h2 n2) : Ab fl h n h2 n2 :=
  ⟨Nat.le_trans a.le b.le, fun k hk => (b.old k hk).trans (a.old k hk), fun k c z e => by
    rcases b.made k c z e with ⟨c1, z1, e1⟩ | ⟨h1, h2⟩
    · rcases a.made k c1 z1 e1 with e2 | ⟨h1, h2⟩
      · exact .inl e2
      · exact .inr ⟨h1, Nat.lt_of_lt_of_le h2 b.le⟩
    · exact .inr ⟨Nat.le_trans a.le h1, h2⟩⟩
theorem Ab.new {fl n : Nat} {h : HT} (x : RB) (hf : fl ≤ n) : Ab fl h n (hst h x n) (n + 1) := by
  refine ⟨by omega, fun b hb => ?_, fun b c z e => ?_⟩
  · rcases hg_hst h x n b with ⟨h1, _⟩ | ⟨_, h1⟩
    · omega
    · exact h1
  · rcases hg_hst h x n b with ⟨h1, _⟩ | ⟨_, h1⟩
    · exact .inr ⟨by omega, by omega⟩
    · rw [h1] at e; exact .inl ⟨_, _, e⟩
theorem Ab.set {fl n b : Nat} {h : HT} (x : RB) (hf : fl ≤ b) (hd : ∀ c z, x = .bk c z → ∃ c z, hg h b = .bk c z) : Ab fl h n (hst h x b) n := by
  refine ⟨Nat.le_refl _, fun b' hb => ?_, fun b' c z e => ?_⟩
  · rcases hg_hst h x b b' with ⟨h1, _⟩ | ⟨_, h1⟩
    · omega
    · exact h1
  · rcases hg_hst h x b b' with ⟨h1, h2 | h2⟩ | ⟨_, h1⟩
    · rw [h2] at e
      obtain ⟨c2, z2, h3⟩ := hd _ _ e
      rw [h1]; exact .inl ⟨_, _, h3⟩
    · rw [h2] at e; cases e
    · rw [h1] at e; exact .inl ⟨_, _, e⟩
theorem Tr.refl {g fl n : Nat} {h : HT} {w : World} (s : Sim P ρ m g h w) : Tr P ρ g fl h n m w h n m w :=
  ⟨s, Ext.refl _ _ _, Keep.refl _ _ _ _, fun b c z _B O Z h1 h2 h3 => .inr ⟨b, c, z, O, Z, h1, h2, h3⟩⟩
theorem Tr.trans {g fl n n1 n2 : Nat} {h h1 h2 : HT} {m m1 m2 : Mp} {w w1 w2 : World} (a : Tr P ρ g fl h n m w h1 n1 m1 w1) (b : Tr P ρ g fl h1 n1 m1 w1 h2 n2 m2 w2) (l1 : n ≤ n1) (l2 : n1 ≤ n2) :
    Tr P ρ g fl h n m w h2 n2 m2 w2 := by
  refine ⟨b.sim, fun k hk => ?_, ⟨b.keep.os.trans a.keep.os, b.keep.tape.trans a.keep.tape, b.keep.output.trans a.keep.output, Nat.le_trans a.keep.size b.keep.size, fun k hk hn => ?_, fun k r h => (let ⟨r1, h1⟩ := a.keep.loops k r h; b.keep.loops k r1 h1)⟩, fun k c z B O Z e1 e2 e3 => ?_⟩
  · rw [b.ext k (by omega), a.ext k (by omega)]
  · rw [b.keep.block k (Nat.lt_of_lt_of_le hk a.keep.size) (fun b0 c z O Z e1 e2 e3 => ?_), a.keep.block k hk hn]
    rcases a.orig b0 c z k O Z e1 e2 e3 with q | ⟨b1, c1, z1, O1, Z1, q1, q2, q3⟩
    · omega
    · exact hn b1 c1 z1 O1 Z1 q1 q2 q3
  · rcases b.orig k c z B O Z e1 e2 e3 with q | ⟨b1, c1, z1, O1, Z1, q1, q2, q3⟩
    · exact .inl (Nat.le_trans a.keep.size q)
    · exact a.orig b1 c1 z1 B O1 Z1 q1 q2 q3
/-- a draw -/
theorem Tr.drew {g fl n : Nat} {h : HT} {w : World} (s : Sim P ρ m g h w) : Tr P ρ g fl h n m w h n m w.drew :=
  ⟨s.of_heap rfl, Ext.refl _ _ _, Keep.drew _ _ _ _, fun b c z _B O Z h1 h2 h3 => .inr ⟨b, c, z, O, Z, h1, h2, h3⟩⟩
/-- rows forgotten -/
theorem Tr.sub {g fl n : Nat} {h h' : HT} {w : World} (s : Sim P ρ m g h w) (e : ∀ b c z, hg h' b = .bk c z → hg h b = .bk c z) : Tr P ρ g fl h n m w h' n m w :=
  ⟨s.sub e, Ext.refl _ _ _, Keep.refl _ _ _ _, fun b c z _B O Z h1 h2 h3 => .inr ⟨b, c, z, O, Z, h1, e _ _ _ h2, h3⟩⟩
/-- a new row -/
theorem Tr.new {g fl n z : Nat} {h : HT} {w : World} (s : Sim P ρ m g h w) (hn : m n = none) (c : CT) (C : Array Value) (el : TypeId) (hmz : z ≠ MAPZ) (hz : ∀ k, z ≤ k → cg c k = .un)
    (hk : Knows ρ (upd m n (w.heap.size, 0, C.size)) c C 0) : Tr P ρ g fl h n m w (hst h (.bk c z) n) (n + 1) (upd m n (w.heap.size, 0, C.size)) (w.alloc (.cells C el (0, 0))) := by
  refine ⟨s.new hn c C el hmz hz hk, upd_ext _ _, ⟨rfl, rfl, rfl, by simp, fun k hk _ => RowKit.Below.heap_alloc _ _ _ hk, fun k r h => ⟨r, (RowKit.Below.heap_alloc _ _ _ (Array.getElem?_eq_some_iff.1 h).1).trans h⟩⟩, fun b c' z' B O Z h1 h2 h3 => ?_⟩
  by_cases e : b = n
  · subst e
    rw [upd_self] at h3
    cases h3
    exact .inl (Nat.le_refl _)
  · unfold upd at h3
    rw [if_neg e] at h3
    rcases hg_hst h (.bk c z) n b with ⟨h4, _⟩ | ⟨_, h4⟩
    · exact absurd h4 e
    · rw [h4] at h2
      exact .inr ⟨b, c', z', O, Z, h1, h2, h3⟩
theorem Keep.setRow {fl b B O Z z : Nat} {h : HT} {w : World} {c : CT} {C : Array Value} (hf : fl ≤ b) (hb : hg h b = .bk c z) (hm : m b = some (B, O, Z)) : Keep fl h m w (w.setRow B C) :=
  ⟨rfl, rfl, rfl, by simp, fun k _ hn => setRow_other w B k C (fun e => hn b c z O Z hf hb (by rw [e]; exact hm)), fun k r h => setRow_loop w B k C h⟩
/-- a store over cells that are there -/
theorem Tr.store {g fl b k z n : Nat} {h : HT} {w : World} {c c' : CT} {y : RV} {ys : List Value} (s : Sim P ρ m g h w) (hb : hg h b = .bk c z) (hmz : z ≠ MAPZ) (gb : g ≤ b) (fb : fl ≤ b) (ho : over y c k = some c') (hd : denC ρ m y ys)
    (h0 : ys ≠ []) (hc : ∀ v ∈ ys, Cell v) :
    ∃ B O Z C el, m b = some (B, O, Z) ∧ w.heap[B]? = some (.cells C el (0, 0)) ∧ O + k + ys.length ≤ C.size ∧ Tr P ρ g fl h n m w (hst h (.bk c' z) b) n m (w.setRow B (laid C (O + k) ys)) := by
  obtain ⟨B, O, Z, C, el, fr, hm, hh, hZ, hfr, hz, hk⟩ := s.cells b c z hb hmz
  obtain rfl := hfr gb
  obtain ⟨ho1, ho2⟩ := over_ok ys c c' k ho hd
  have hl : 0 < ys.length := List.length_pos_iff.2 h0
  have hfit : O + k + ys.length ≤ C.size := by
    obtain ⟨v, hv, _⟩ := hk (k + (ys.length - 1)) (ho1 _ (by omega))
    have := (Array.getElem?_eq_some_iff.1 hv).1
    omega
  have hlt : B < w.heap.size := (Array.getElem?_eq_some_iff.1 hh).1
  have hK : Knows ρ m c' (laid C (O + k) ys) O := by
    intro j hj
    rcases ho2 j hj with ⟨h3, v, h4, h5⟩ | ⟨h3, h4⟩
    · refine ⟨v, ?_, h5, hc v (List.mem_of_getElem? h4)⟩
      have := laid_in hfit h4
      rwa [show O + k + (j - k) = O + j by omega] at this
    · rw [h4] at hj ⊢
      obtain ⟨v, hv, hdv, hcv⟩ := hk j hj
      exact ⟨v, by rw [laid_out hfit (by omega)]; exact hv, hdv, hcv⟩
  have hz' : ∀ j, z ≤ j → cg c' j = .un := by
    intro j hj
    rcases Classical.em (cg c' j = .un) with q | q
    · exact q
    · rcases ho2 j q with ⟨h3, v, h4, h5⟩ | ⟨_, h4⟩
      · have hlt2 : j - k < ys.length := by
          rcases Nat.lt_or_ge (j - k) ys.length with q | q
          · exact q
          · rw [List.getElem?_eq_none q] at h4; cases h4
        have := ho1 (j - k) hlt2
        rw [show k + (j - k) = j by omega] at this
        exact absurd (hz j hj) this
      · rw [h4]; exact hz j hj
  have hold : ∀ b', b' ≠ b → hg (hst h (.bk c' z) b) b' = hg h b' := fun b' hb' => by
    rcases hg_hst h (.bk c' z) b b' with ⟨h1, _⟩ | ⟨_, h1⟩
    · exact absurd h1 hb'
    · exact h1
  have hself : ∀ c1 z1, hg (hst h (.bk c' z) b) b = .bk c1 z1 → c1 = c' ∧ z1 = z := fun c1 z1 e => by
    rcases hg_hst h (.bk c' z) b b with ⟨_, h1 | h1⟩ | ⟨h1, _⟩
    · rw [e] at h1; cases h1; exact ⟨rfl, rfl⟩
    · rw [e] at h1; cases h1
    · exact absurd rfl h1
  refine ⟨B, O, Z, C, el, hm, hh, hfit, ⟨⟨fun b' c1 z1 e => ?_, fun b1 b2 c1 z1 c2 z2 B1 O1 Z1 O2 Z2 e1 e2 e3 e4 => ?_⟩, Ext.refl _ _ _, Keep.setRow fb hb hm, fun b' c1 z1 B1 O1 Z1 e1 e2 e3 => ?_⟩⟩
  · by_cases eb : b' = b
    · subst eb
      obtain ⟨rfl, rfl⟩ := hself _ _ e
      exact ⟨B, O, Z, hm, .inl ⟨hmz, laid C (O + k) ys, el, (0, 0), setRow_heap w B C _ el (0, 0) hh, by rw [laid_size hfit, hZ], fun _ => rfl, hz', hK⟩⟩
    · rw [hold b' eb] at e
      obtain ⟨B', O', Z', q1, q2⟩ := s.cell b' c1 z1 e
      exact ⟨B', O', Z', q1, q2.move (setRow_other w B B' _ (fun eB => by
        subst eB
        exact eb (s.inj b' b c1 z1 c z B' O' Z' O Z e hb q1 hm))) (Le.refl _)⟩
  · have key : ∀ b1 c1 z1, hg (hst h (.bk c' z) b) b1 = .bk c1 z1 → ∃ c2 z2, hg h b1 = .bk c2 z2 := fun b1 c1 z1 e => by
      by_cases eb : b1 = b
      · exact ⟨c, z, by rw [eb]; exact hb⟩
      · rw [hold b1 eb] at e; exact ⟨_, _, e⟩
    obtain ⟨c3, z3, q1⟩ := key b1 c1 z1 e1
    obtain ⟨c4, z4, q2⟩ := key b2 c2 z2 e2
    exact s.inj b1 b2 c3 z3 c4 z4 B1 O1 Z1 O2 Z2 q1 q2 e3 e4
  · by_cases eb : b' = b
    · subst eb; exact .inr ⟨b', c, z, O1, Z1, e1, hb, e3⟩
    · rw [hold b' eb] at e2; exact .inr ⟨b', c1, z1, O1, Z1, e1, e2, e3⟩
/-- a row that has room, known under a new number -/
theorem Tr.room {g fl b z n B O Z i O' z' : Nat} {h : HT} {w : World} {c c' : CT} {C : Array Value} {el : TypeId} {ys : List Value} (s : Sim P ρ m g h w) (hb : hg h b = .bk c z) (fb : fl ≤ b) (hm : m b = some (B, O, Z))
    (hh : w.heap[B]? = some (.cells C el (0, 0))) (hZ : C.size = Z) (hn : m n = none) (hfit : i + ys.length ≤ C.size) (hf : fl ≤ n) (hmz : z' ≠ MAPZ) (hz' : ∀ k, z' ≤ k → cg c' k = .un)
    (hK : Knows ρ (upd m n (B, O', Z)) c' (laid C i ys) O') :
    Tr P ρ g fl h n m w (hst (hst h .no b) (.bk c' z') n) (n + 1) (upd m n (B, O', Z)) (w.setRow B (laid C i ys)) := by
  have hle : Le m (upd m n (B, O', Z)) := upd_le hn
  have hbn : b ≠ n := fun e => by rw [e, hn] at hm; cases hm
  have hold : ∀ b' c1 z1, b' ≠ n → hg (hst (hst h .no b) (.bk c' z') n) b' = .bk c1 z1 → b' ≠ b ∧ hg h b' = .bk c1 z1 := fun b' c1 z1 e1 e2 => by
    rcases hg_hst (hst h .no b) (.bk c' z') n b' with ⟨h1, _⟩ | ⟨_, h1⟩
    · exact absurd h1 e1
    · rw [h1] at e2
      rcases hg_hst h .no b b' with ⟨h2, h3 | h3⟩ | ⟨h2, h3⟩
      · rw [h3] at e2; cases e2
      · rw [h3] at e2; cases e2
      · rw [h3] at e2; exact ⟨h2, e2⟩
  have hself : ∀ c1 z1, hg (hst (hst h .no b) (.bk c' z') n) n = .bk c1 z1 → c1 = c' ∧ z1 = z' := fun c1 z1 e => by
    rcases hg_hst (hst h .no b) (.bk c' z') n n with ⟨_, h1 | h1⟩ | ⟨h1, _⟩
    · rw [e] at h1; cases h1; exact ⟨rfl, rfl⟩
    · rw [e] at h1; cases h1
    · exact absurd rfl h1
  have hup : ∀ b', b' ≠ n → upd m n (B, O', Z) b' = m b' := fun b' e => by unfold upd; rw [if_neg e]
  refine ⟨⟨fun b' c1 z1 e => ?_, fun b1 b2 c1 z1 c2 z2 B1 O1 Z1 O2 Z2 e1 e2 e3 e4 => ?_⟩, upd_ext _ _, Keep.setRow fb hb hm, fun b' c1 z1 B1 O1 Z1 e1 e2 e3 => ?_⟩
  · by_cases eb : b' = n
    · subst eb
      obtain ⟨rfl, rfl⟩ := hself _ _ e
      exact ⟨B, O', Z, upd_self _ _, .inl ⟨hmz, laid C i ys, el, (0, 0), setRow_heap w B C _ el (0, 0) hh, by rw [laid_size hfit, hZ], fun _ => rfl, hz', hK⟩⟩
    · obtain ⟨e5, e6⟩ := hold b' c1 z1 eb e
      obtain ⟨B2, O2, Z2, q1, q2⟩ := s.cell b' c1 z1 e6
      exact ⟨B2, O2, Z2, hle _ _ q1, q2.move (setRow_other w B B2 _ (fun eB => by
        subst eB
        exact e5 (s.inj b' b c1 z1 c z B2 O2 Z2 O Z e6 hb q1 hm))) hle⟩
  · by_cases x1 : b1 = n
    · by_cases x2 : b2 = n
      · omega
      · obtain ⟨e5, e6⟩ := hold b2 c2 z2 x2 e2
        rw [hup b2 x2] at e4
        subst x1
        rw [upd_self] at e3
        cases e3
        exact absurd (s.inj b2 b c2 z2 c z B O2 Z2 O Z e6 hb e4 hm) e5
    · obtain ⟨e5, e6⟩ := hold b1 c1 z1 x1 e1
      rw [hup b1 x1] at e3
      by_cases x2 : b2 = n
      · subst x2
        rw [upd_self] at e4
        cases e4
        exact absurd (s.inj b1 b c1 z1 c z B O1 Z1 O Z e6 hb e3 hm) e5
      · obtain ⟨e7, e8⟩ := hold b2 c2 z2 x2 e2
        rw [hup b2 x2] at e4
        exact s.inj b1 b2 c1 z1 c2 z2 B1 O1 Z1 O2 Z2 e6 e8 e3 e4
  · by_cases eb : b' = n
    · subst eb
      rw [upd_self] at e3
      cases e3
      exact .inr ⟨b, c, z, O, Z, fb, hb, hm⟩
    · obtain ⟨_, e6⟩ := hold b' c1 z1 eb e2
      rw [hup b' eb] at e3
      exact .inr ⟨b', c1, z1, O1, Z1, e1, e6, e3⟩
/-- the run of a store -/
theorem run_lay {P : Program} {w : World} {B i : Nat} {C : Array Value} {el : TypeId} {ys : List Value} (hh : w.heap[B]? = some (.cells C el (0, 0))) (hfit : i + ys.length ≤ C.size) (hc : ∀ v ∈ ys, Cell v) :
    (storeCells ⟨B, i, none⟩ ys).run P w = .ok () (w.setRow B (laid C i ys)) := by
  have := run_storeCells_at P B i el ys 0 C w hh (by simpa using hfit) hc
  simpa [laid] using this
end Go.Rn
