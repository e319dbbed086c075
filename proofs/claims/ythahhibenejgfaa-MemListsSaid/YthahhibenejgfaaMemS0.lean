/-
  append onto an own row, from a slice that may be nil or empty. Conditions: those that the theorems print.
-/
import Derived.Test.YthahhibenejgfaaMemR
import Derived.Deep.Upon
import Derived.Maps.AppendAt
namespace Go.Proofs.Ythahhibenejgfaa
open Go.RowKit Mem
section
variable {P : Program} {w : World}
theorem append_any (base : Nat) (t ty e : TypeId) (i : TypeInfo) (z : Value) (bytes : Nat) (ht : P.underlying t = some (.slice e)) (hi : P.info? e = some i) (hz : i.zero = some z)
    (hsize : i.size = 1) (hby : i.bytes = bytes) (hzs : z.cells.size = 1)
    (v : Value) (n : Nat) (xs : List Value) (hown : w.ownsRow base e 1 v n xs)
    (a : Option Addr) (m c : Nat) (news : List Value) (hl : news.length = m) (hnews : m = 0 ∨ ∃ ad, a = some ad ∧ ∀ j u, news[j]? = some u → w.cell? (ad.add j) = some u) (h1 : ∀ u ∈ news, u.oneCell' = true)
    (h63 : n + m ≤ maxLen) (hbytes : (n + m) * bytes ≤ 140737488355328) (hbase : base ≤ w.heap.size) :
    ∃ v' w', (Builtin.append_ #[t, t] ty #[v, .slice a m c]).run P w = .ok v' w' ∧ w'.ownsRow base e 1 v' (n + m) (xs ++ news) ∧ w.grownBy w' v.ownBlock ∧ (v'.ownBlock = v.ownBlock ∨ v'.ownBlock = some w.heap.size) := by
  cases a with
  | some ad =>
    have hn : ∀ j u, news[j]? = some u → w.cell? (ad.add j) = some u := by
      rcases hnews with h | ⟨ad', h, g⟩
      · subst h
        obtain rfl := List.eq_nil_of_length_eq_zero hl
        intro j u hj
        simp at hj
      · cases h
        exact g
    obtain ⟨v', w', h2, h3, h4, _, h5⟩ := run_append_own_at (P := P) w base t ty e i z 1 bytes ht hi hz hsize hby hzs (by omega) v n xs hown ad m c news (by omega) hn h1 h63 hbytes hbase
    exact ⟨v', w', h2, h3, h4, h5⟩
  | none =>
    have hm : m = 0 := by
      rcases hnews with h | ⟨ad, h, _⟩
      · exact h
      · cases h
    subst hm
    obtain rfl := List.eq_nil_of_length_eq_zero hl
    have hs : Src P i.size t (.slice none 0 c) 0 [] w := Src.ofNil w ht c
    obtain ⟨b0, l0, c0, rfl, hle⟩ : ∃ b0 l0 c0, v = .slice b0 l0 c0 ∧ l0 ≤ c0 := by
      rcases hown.2 with ⟨h, _⟩ | ⟨g, cap, cur, h, _, _, h2, _⟩
      · exact ⟨_, _, _, h, Nat.le_refl _⟩
      · exact ⟨_, _, _, h, h2⟩
    have hr := run_append_nothing w t t ty e i ht hi b0 l0 c0 hle (.slice none 0 c) hs
    refine ⟨_, w, hr, ?_, ⟨rfl, rfl, rfl, Nat.le_refl _, fun _ _ _ => rfl⟩, .inl rfl⟩
    rw [Nat.add_zero, List.append_nil]
    exact hown
theorem wpList_append_any {ops : Array Oper} {rest : List Oper} {o : Oper} {a : Act} {Q : Exit → Act → World → Prop} (hgd : o.guard = none) (s x : Operand) (t : TypeId)
    (ho : o.op = .call { callee := .builtin .append, args := #[s, x], argTypes := #[t, t] })
    (base : Nat) (e : TypeId) (i : TypeInfo) (z : Value) (bytes : Nat) (ht : P.underlying t = some (.slice e)) (hi : P.info? e = some i) (hz : i.zero = some z)
    (hsize : i.size = 1) (hby : i.bytes = bytes) (hzs : z.cells.size = 1)
    (v : Value) (n : Nat) (xs : List Value) (hs : a.eval s = v) (hown : w.ownsRow base e 1 v n xs)
    (ad : Option Addr) (m c : Nat) (news : List Value) (hx : a.eval x = .slice ad m c) (hl : news.length = m) (hnews : m = 0 ∨ ∃ p, ad = some p ∧ ∀ j u, news[j]? = some u → w.cell? (p.add j) = some u) (h1 : ∀ u ∈ news, u.oneCell' = true)
    (h63 : n + m ≤ maxLen) (hbytes : (n + m) * bytes ≤ 140737488355328) (hbase : base ≤ w.heap.size)
    (h : ∀ v' w', w'.ownsRow base e 1 v' (n + m) (xs ++ news) → w.grownBy w' v.ownBlock → (v'.ownBlock = v.ownBlock ∨ v'.ownBlock = some w.heap.size) → wpList P ops Q rest (a.put o.dst v') w') : wpList P ops Q (o :: rest) a w :=
  wpList_plain hgd fun _ hK => by
    obtain ⟨v', w', hr, h2, h3, h4⟩ := append_any (P := P) (w := w) base t o.type e i z bytes ht hi hz hsize hby hzs v n xs hown ad m c news hl hnews h1 h63 hbytes hbase
    unfold Oper.wp execOp
    simp only [ho, resolve, invoke, builtin, Sem.run_bind, Sem.run_pure, Result.andThen_ok, List.map_toArray, List.map_cons, List.map_nil, hs, hx, hr]
    exact hK _ _ (h v' w' h2 h3 h4)
end
namespace Mem
theorem far_grown {v v' : Value} {w w' : World} {x : Ls} (h : Far v w x) (hg : w.grownBy w' v.ownBlock) (ha : v'.ownBlock = v.ownBlock ∨ v'.ownBlock = some w.heap.size) : Far v' w' x := by
  rcases h with h | ⟨b, o, h1, h0, h2, h3⟩
  · exact .inl h
  · refine .inr ⟨b, o, h1, fun e => ?_, Nat.lt_of_lt_of_le h2 hg.size, fun q hq => ?_⟩
    · rcases ha with ha | ha
      · exact h0 (ha ▸ e)
      · rw [ha] at e
        injection e with e
        omega
    · rw [World.cell?_of_block (w := w) (hg.block b h2 (fun e => h0 e.symm))]
      exact h3 q hq
/-- strictly rising, each once -/
def PW (E : List Ls) : Prop := (mL E).Pairwise Lt
theorem mL_append (C D : List Ls) : mL (C ++ D) = mL C ++ mL D := by simp [mL]
theorem getD_mL {E : List Ls} {q : Nat} (h : q < E.length) : (mL E)[q]? = some (E.getD q Ls.zero).L := by
  unfold mL
  rw [List.getElem?_map, List.getElem?_eq_getElem h, List.getD_eq_getElem?_getD, List.getElem?_eq_getElem h]
  rfl
theorem ins_pw {E : List Ls} {x : Ls} {k : Nat} (h : PW E) (hk : k ≤ E.length) (h1 : ∀ q, q < k → Lt (E.getD q Ls.zero).L x.L) (h2 : k < E.length → Lt x.L (E.getD k Ls.zero).L) : PW (E.take k ++ [x] ++ E.drop k) := by
  unfold PW at h ⊢
  have hlen : (mL E).length = E.length := by simp [mL]
  have e1 : mL (E.take k) = (mL E).take k := by simp [mL, List.map_take]
  have e2 : mL (E.drop k) = (mL E).drop k := by simp [mL, List.map_drop]
  rw [mL_append, mL_append, e1, e2]
  have t1 : ∀ a ∈ (mL E).take k, Lt a x.L := fun a ha => by
    obtain ⟨q, hq, rfl⟩ := List.getElem_of_mem ha
    rw [List.length_take, hlen] at hq
    have := h1 q (by omega)
    have g := getD_mL (E := E) (q := q) (by omega)
    rw [List.getElem_take]
    rw [List.getElem?_eq_getElem (by omega)] at g
    injection g with g
    rwa [g]
  have t2 : ∀ c ∈ (mL E).drop k, Lt x.L c := fun c hc => by
    by_cases hkl : k < E.length
    · have g := getD_mL hkl
      rw [List.getElem?_eq_getElem (by omega)] at g
      injection g with g
      rw [List.drop_eq_getElem_cons (by omega)] at hc
      have hp : ((mL E).drop k).Pairwise Lt := h.sublist (List.drop_sublist _ _)
      rw [List.drop_eq_getElem_cons (by omega)] at hp
      rcases List.mem_cons.1 hc with hc | hc
      · rw [hc, g]; exact h2 hkl
      · have h3 := (List.pairwise_cons.1 hp).1 c hc
        rw [g] at h3
        exact lt_trans (h2 hkl) h3
    · rw [List.drop_eq_nil_of_le (by omega)] at hc
      cases hc
  rw [List.pairwise_append, List.pairwise_append]
  refine ⟨⟨h.sublist (List.take_sublist _ _), List.pairwise_singleton _ _, ?_⟩, h.sublist (List.drop_sublist _ _), ?_⟩
  · intro a ha b hb
    rw [List.mem_singleton.1 hb]
    exact t1 a ha
  · intro a ha b hb
    rcases List.mem_append.1 ha with ha | ha
    · exact lt_trans (t1 a ha) (t2 b hb)
    · rw [List.mem_singleton.1 ha]
      exact t2 b hb
/-- the first k lists are the row's -/
def Held (C : List Ls) (k : Nat) (E : List Ls) : Prop := ∀ L, L ∈ mL E ↔ ∃ j, j < k ∧ (C.getD j Ls.zero).L = L
theorem held_same {C E : List Ls} {k q : Nat} (h : Held C k E) (hq : q < E.length) (e : (E.getD q Ls.zero).L = (C.getD k Ls.zero).L) : Held C (k + 1) E := by
  intro L
  rw [h L]
  constructor
  · rintro ⟨j, hj, g⟩; exact ⟨j, by omega, g⟩
  · rintro ⟨j, hj, g⟩
    by_cases hjk : j = k
    · subst hjk
      rw [← g, ← e]
      exact (h _).1 (mem_yes hq rfl)
    · exact ⟨j, by omega, g⟩
theorem held_ins {C E : List Ls} {k p : Nat} {x : Ls} (h : Held C k E) (e : x.L = (C.getD k Ls.zero).L) : Held C (k + 1) (E.take p ++ [x] ++ E.drop p) := by
  intro L
  have : L ∈ mL (E.take p ++ [x] ++ E.drop p) ↔ L ∈ mL E ∨ L = x.L := by
    rw [mL_append, mL_append]
    have e1 : mL (E.take p) = (mL E).take p := by simp [mL, List.map_take]
    have e2 : mL (E.drop p) = (mL E).drop p := by simp [mL, List.map_drop]
    rw [e1, e2]
    conv => rhs; rw [← List.take_append_drop p (mL E)]
    simp only [List.mem_append, mL, List.map_cons, List.map_nil, List.mem_singleton]
    constructor
    · rintro ((h | h) | h)
      · exact .inl (.inl h)
      · exact .inr h
      · exact .inl (.inr h)
    · rintro ((h | h) | h)
      · exact .inl (.inl h)
      · exact .inr h
      · exact .inl (.inr h)
  rw [this, h L]
  constructor
  · rintro (⟨j, hj, g⟩ | g)
    · exact ⟨j, by omega, g⟩
    · exact ⟨k, by omega, by rw [g, e]⟩
  · rintro ⟨j, hj, g⟩
    by_cases hjk : j = k
    · subst hjk
      exact .inr (by rw [e, g])
    · exact .inl ⟨j, by omega, g⟩
/-- the reference's row behind k lists -/
def RefOk (C : List Ls) (k : Nat) (w w' : World) (v : Value) : Prop :=
  ∃ (B : Nat) (E : List Ls), PW E ∧ Held C k E ∧ E.length ≤ k ∧ w'.ownsRow B 23 1 v E.length (lvs E) ∧ (∀ x ∈ E, NsIn w' x.a x.L) ∧ Below w.heap.size w w'
end Mem
end Go.Proofs.Ythahhibenejgfaa
